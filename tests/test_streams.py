import unittest

from tests.made import (all_streams, any_web, bent, dice_of, is_int, odd_things, plain_stream, unchanged, web_of)
from unturned.bounds import GREAT
from unturned.streams import at_doors, nothing, streamfault, through, worth

# In by 0 and 4, round between the houses by 1 and 2, out by 3.
ORDINARY = web_of(3, [(None, 0, 5), (0, 1, 4), (1, 0, 3), (1, None, 6), (None, 1, 2)])
RING = web_of(3, [(0, 1, 4), (1, 2, 3), (2, 0, 2), (1, 0, 9)])


def plain_fault(web, thing):
    """streamfault by [6], written another way."""
    roads = web[0]
    if type(thing) is not tuple or len(thing) != len(roads) or [b for b in thing if not is_int(b) or b < 0]:
        return ("form",)
    for k, bears in enumerate(thing):
        if bears > roads[k][2]:
            return ("room", k)
    for h in range(len(web[1])):
        if sum(b if r[1] == h else -b if r[0] == h else 0 for b, r in zip(thing, roads)) != 0:
            return ("house", h)
    return None


class Streamfault(unittest.TestCase):
    def test_told_faults(self):
        for thing, fault in [
            ((0, 0, 0, 0, 0), None),
            ((1, 1, 0, 1, 0), None),
            ((0, 3, 3, 0, 0), None),
            ((4, 4, 0, 6, 2), None),
            ((1, 4, 3, 2, 1), None),
            ((), ("form",)),
            ((0, 0, 0, 0), ("form",)),
            ((0, 0, 0, 0, 0, 0), ("form",)),
            ([0, 0, 0, 0, 0], ("form",)),
            ((0, 0, 0, 0, -1), ("form",)),
            ((1, True, 0, 1, 0), ("form",)),
            ((0, False, 0, 0, 0), ("form",)),
            ((0, None, 0, 0, 0), ("form",)),
            ((0, "0", 0, 0, 0), ("form",)),
            ((0, (), [], {}, 0), ("form",)),
            ((6, 0, 0, 0, 0), ("room", 0)),
            ((0, 0, 4, 0, 3), ("room", 2)),
            ((0, 0, 0, 0, 10 ** 29), ("room", 4)),
            ((1, 0, 0, 0, 0), ("house", 0)),
            ((0, 0, 0, 1, 0), ("house", 1)),
            ((1, 0, 0, 1, 0), ("house", 0)),
            ((1, 1, 0, 0, 1), ("house", 1)),
        ]:
            self.assertEqual(unchanged(self, streamfault, ORDINARY, thing), fault, thing)

    def test_the_first_of_several(self):
        self.assertEqual(streamfault(ORDINARY, (9, 0, 0, 0, -1)), ("form",))
        self.assertEqual(streamfault(ORDINARY, (1, 0, 0, 7, 3)), ("room", 3))
        self.assertEqual(streamfault(ORDINARY, (1, 0, 0, 1, 0)), ("house", 0))

    def test_without_room_and_without_doors(self):
        self.assertIsNone(streamfault(web_of(1, [(None, 0, 0)]), (0,)))
        self.assertEqual(streamfault(web_of(1, [(None, 0, 0)]), (1,)), ("room", 0))
        self.assertEqual(streamfault(web_of(1, [(None, 0, 1)]), (1,)), ("house", 0))
        self.assertIsNone(streamfault(RING, (3, 2, 2, 1)))
        self.assertEqual(streamfault(RING, (2, 2, 1, 0)), ("house", 0))
        self.assertEqual(streamfault(RING, (2, 2, 1, 1)), ("house", 1))
        self.assertEqual(streamfault(RING, (1, 2, 1, 0)), ("house", 1))
        self.assertEqual(streamfault(RING, (1, 1, 0, 1)), ("house", 1))

    def test_whatever_it_is(self):
        for thing in odd_things():
            self.assertEqual(unchanged(self, streamfault, ORDINARY, thing), plain_fault(ORDINARY, thing))
        for web, stream in [(ORDINARY, (1, 4, 3, 2, 1)), (RING, (3, 2, 2, 1))]:
            for thing in bent(stream):
                self.assertEqual(streamfault(web, thing), plain_fault(web, thing), thing)

    def test_just_the_streams_have_none(self):
        dice = dice_of(5)
        for turn in range(20):
            web = any_web(dice, dice.randint(1, 3), dice.randint(1, 5), 2)
            self.assertIsNone(streamfault(web, nothing(web)))
            for stream in all_streams(web):
                self.assertIsNone(streamfault(web, stream))
                more = tuple(b + dice.randint(0, 1) for b in stream)
                self.assertEqual(streamfault(web, more), plain_fault(web, more))
                self.assertEqual(streamfault(web, more) is None, plain_stream(web, more))


class Sums(unittest.TestCase):
    def test_ordinary(self):
        stream = (1, 4, 3, 2, 1)
        self.assertEqual(unchanged(self, nothing, ORDINARY), (0, 0, 0, 0, 0))
        self.assertEqual(unchanged(self, through, ORDINARY, stream), (4, 5, 0))
        self.assertEqual(unchanged(self, worth, ORDINARY, stream), 2)
        self.assertEqual(unchanged(self, at_doors, ORDINARY, stream), ((0, 1), (3, 2), (4, 1)))

    def test_without_doors(self):
        stream = (3, 2, 2, 1)
        self.assertEqual(nothing(RING), (0, 0, 0, 0))
        self.assertEqual(through(RING, stream), (3, 3, 2))
        self.assertEqual(worth(RING, stream), 0)
        self.assertEqual(at_doors(RING, stream), ())

    def test_near_great(self):
        web = web_of(1, [(None, 0, GREAT)] * 10 + [(0, None, GREAT - 1)] * 10)
        stream = (GREAT - 1,) * 20
        self.assertIsNone(streamfault(web, stream))
        self.assertEqual(streamfault(web, (GREAT,) * 20), ("room", 10))
        self.assertEqual(through(web, stream), (10 * (GREAT - 1),))
        self.assertEqual(worth(web, stream), 10 * (GREAT - 1))
        self.assertEqual(at_doors(web, stream), tuple((k, GREAT - 1) for k in range(20)))

    def look_at(self, web, stream):
        roads = web[0]
        told = through(web, stream)
        self.assertIs(type(told), tuple)
        self.assertEqual(list(told), [sum(b for b, r in zip(stream, roads) if r[1] == h) for h in range(len(web[1]))])
        self.assertEqual(list(told), [sum(b for b, r in zip(stream, roads) if r[0] == h) for h in range(len(web[1]))])
        self.assertTrue(is_int(worth(web, stream)))
        self.assertEqual(worth(web, stream), sum(b for b, r in zip(stream, roads) if r[0] is None))
        self.assertEqual(worth(web, stream), sum(b for b, r in zip(stream, roads) if r[1] is None))
        pairs = at_doors(web, stream)
        self.assertIs(type(pairs), tuple)
        self.assertEqual(pairs, tuple((k, stream[k]) for k, r in enumerate(roads) if None in r[:2]))

    def test_as_much_comes_in_as_goes_out(self):
        dice = dice_of(6)
        for turn in range(20):
            web = any_web(dice, dice.randint(1, 3), dice.randint(1, 6), 2, outside=2)
            self.assertEqual(nothing(web), (0,) * len(web[0]))
            for stream in all_streams(web):
                self.look_at(web, stream)
                # The same so many times as great, with rooms up to GREAT.
                great = (tuple((begin, end, room * (GREAT // 2)) for begin, end, room in web[0]), *web[1:])
                self.look_at(great, tuple(bears * (GREAT // 2) for bears in stream))


if __name__ == "__main__":
    unittest.main()
