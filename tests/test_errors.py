import ast
import inspect
import unittest

from tests.made import odd_things
from unturned import errors

WRONG = {"BadWeb": ("path", "word"), "TooGreat": (), "Full": (), "NoRoads": (), "BadOrder": (), "TooMany": ("bound",),
         "Long": (), "Busy": (), "NothingBack": (), "NoDeeds": (), "Broken": ("number",), "Last": (), "Held": (),
         "NoRoom": ("room",), "NoStream": ("fault",), "NoText": ("line",)}
NOT_THERE = {"NoDoor": ("road",), "NoRoad": ("road",), "NoHouse": ("house",), "NoEnd": ("end",),
             "NoMoment": ("number",)}
FIELDS = {**WRONG, **NOT_THERE}
MORE_THINGS = [123456789012345678901234567890, -123456789012345678901234567890, 0, 1, "0", [1, [2]], {"a": [True]},
               ((0, 1), "room"), ("form",), (True, 1), [None]]


def class_of(name):
    return getattr(errors, name)


class Errors(unittest.TestCase):
    def test_just_these_are_there(self):
        tree = ast.parse(inspect.getsource(errors))
        self.assertEqual({node.name for node in tree.body if isinstance(node, ast.ClassDef)}, {"WebError", *FIELDS})

    def test_made_of_their_fields(self):
        for name, fields in FIELDS.items():
            for thing in odd_things() + MORE_THINGS:
                handed = [thing, [thing, "other"]][:len(fields)]
                said = repr(handed)
                error = class_of(name)(*handed)
                for field, there in zip(fields, handed):
                    self.assertIs(getattr(error, field), there, (name, field))
                self.assertEqual(repr(handed), said)

    def test_no_fields_fewer_or_more(self):
        for name, fields in FIELDS.items():
            if fields:
                self.assertRaises(TypeError, class_of(name), *fields[1:])
                self.assertRaises(TypeError, class_of(name), *fields, "more")

    def test_fields_in_that_order(self):
        error = errors.BadWeb((0, 1), "road")
        self.assertEqual((error.path, error.word), ((0, 1), "road"))
        error = errors.BadWeb("road", (0, 1))
        self.assertEqual((error.path, error.word), ("road", (0, 1)))

    def test_each_object_has_its_own(self):
        for name, fields in FIELDS.items():
            one, other = [class_of(name)(*[at] * len(fields)) for at in (3, 4)]
            for field in fields:
                self.assertEqual((getattr(one, field), getattr(other, field)), (3, 4))

    def test_where_they_stand(self):
        self.assertTrue(issubclass(errors.WebError, ValueError))
        self.assertFalse(issubclass(errors.WebError, LookupError))
        for name in WRONG:
            self.assertTrue(issubclass(class_of(name), errors.WebError), name)
            self.assertTrue(issubclass(class_of(name), ValueError), name)
            self.assertFalse(issubclass(class_of(name), LookupError), name)
        for name in NOT_THERE:
            self.assertTrue(issubclass(class_of(name), LookupError), name)
            self.assertFalse(issubclass(class_of(name), ValueError), name)
            self.assertFalse(issubclass(class_of(name), errors.WebError), name)

    def test_none_under_another_one(self):
        for one in FIELDS:
            for other in FIELDS:
                self.assertEqual(issubclass(class_of(one), class_of(other)), one == other, (one, other))

    def test_raised_and_caught(self):
        for name, fields in FIELDS.items():
            with self.assertRaises(class_of(name)) as caught:
                raise class_of(name)(*fields)
            for field in fields:
                self.assertEqual(getattr(caught.exception, field), field)
            self.assertIsInstance(str(caught.exception), str)
            self.assertIsInstance(repr(caught.exception), str)


if __name__ == "__main__":
    unittest.main()
