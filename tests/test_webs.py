import unittest

from tests.made import any_web, bent, deep, dice_of, is_int, odd_things, unchanged, web_of, with_part
from unturned.bounds import GREAT, HOUSES, ROADS
from unturned.webs import doors, in_doors, out_doors, webfault

ORDINARY = web_of(3, [(None, 0, 5), (0, 1, 4), (1, 0, 3), (1, None, 2), (None, 1, 1)], {1: (3, 2)}, {1: (4, 1)})
WORDS = {"web", "gives", "takes", "roads", "road", "begin", "end", "alike", "room", "order"}


def plain_fault(thing):
    """webfault by [4], written another way."""
    def rows(part, least, most):
        return type(part) is tuple and least <= len(part) <= most
    if not rows(thing, 3, 3):
        return ((), "web")
    if not rows(thing[1], 1, 8):
        return ((1,), "gives")
    houses = len(thing[1])
    if not rows(thing[2], houses, houses):
        return ((2,), "takes")
    if not rows(thing[0], 1, 20):
        return ((0,), "roads")
    for k, road in enumerate(thing[0]):
        if not rows(road, 3, 3):
            return ((0, k), "road")
        for side, word in ((0, "begin"), (1, "end")):
            if not (road[side] is None or is_int(road[side]) and road[side] in range(houses)):
                return ((0, k, side), word)
        if road[0] == road[1]:
            return ((0, k), "alike")
        if not (is_int(road[2]) and 0 <= road[2] <= 10 ** 12):
            return ((0, k, 2), "room")
    for side in (0, 1):
        for h, order in enumerate(thing[side + 1]):
            mine = [k for k, road in enumerate(thing[0]) if road[side] == h]
            if not (type(order) is tuple and all(map(is_int, order)) and sorted(order) == mine):
                return ((side + 1, h), "order")
    return None


class Webfault(unittest.TestCase):
    def test_none_of_webs(self):
        for web in [
            ORDINARY,
            web_of(1, [(None, 0, 0)]),
            web_of(1, [(None, 0, GREAT)]),
            web_of(1, [(0, None, 1)]),
            web_of(HOUSES, [(None, 0, 3)]),
            web_of(HOUSES, [(k % 8, (k + 1) % 8, GREAT) for k in range(ROADS)]),
            web_of(1, [(None, 0, k) for k in range(10)] + [(0, None, k) for k in range(10)]),
            web_of(2, [(0, 1, 7)]),
            web_of(3, [(0, 1, 7), (0, 1, 7), (1, 0, 0)], {0: (1, 0)}, {1: (1, 0)}),
            web_of(HOUSES, [(6, 7, 1)] * ROADS, {6: tuple(range(20))[::-1]}),
        ]:
            self.assertIsNone(unchanged(self, webfault, web))

    def test_each_word(self):
        roads, gives, takes = ORDINARY
        nine = web_of(HOUSES + 1, [(None, 0, 1)])
        many = web_of(2, [(0, 1, 1)] * (ROADS + 1))
        for thing, fault in [
            ((), ((), "web")),
            (None, ((), "web")),
            (list(ORDINARY), ((), "web")),
            (ORDINARY + ((),), ((), "web")),
            (ORDINARY[:2], ((), "web")),
            ((roads, (), takes), ((1,), "gives")),
            ((roads, list(gives), takes), ((1,), "gives")),
            ((roads, None, takes), ((1,), "gives")),
            (nine, ((1,), "gives")),
            ((roads, gives, takes[:2]), ((2,), "takes")),
            ((roads, gives, takes + ((),)), ((2,), "takes")),
            ((roads, gives, list(takes)), ((2,), "takes")),
            (((), gives, takes), ((0,), "roads")),
            ((list(roads), gives, takes), ((0,), "roads")),
            (many, ((0,), "roads")),
            (with_part(ORDINARY, (0, 2), (1, 0)), ((0, 2), "road")),
            (with_part(ORDINARY, (0, 2), (1, 0, 3, 3)), ((0, 2), "road")),
            (with_part(ORDINARY, (0, 2), [1, 0, 3]), ((0, 2), "road")),
            (with_part(ORDINARY, (0, 1, 0), 3), ((0, 1, 0), "begin")),
            (with_part(ORDINARY, (0, 1, 0), -1), ((0, 1, 0), "begin")),
            (with_part(ORDINARY, (0, 1, 0), False), ((0, 1, 0), "begin")),
            (with_part(ORDINARY, (0, 1, 0), "0"), ((0, 1, 0), "begin")),
            (with_part(ORDINARY, (0, 4, 1), 3), ((0, 4, 1), "end")),
            (with_part(ORDINARY, (0, 4, 1), True), ((0, 4, 1), "end")),
            (with_part(ORDINARY, (0, 4, 1), (1,)), ((0, 4, 1), "end")),
            (with_part(ORDINARY, (0, 4), (None, None, 1)), ((0, 4), "alike")),
            (with_part(ORDINARY, (0, 1), (1, 1, 1)), ((0, 1), "alike")),
            (with_part(ORDINARY, (0, 3, 2), -1), ((0, 3, 2), "room")),
            (with_part(ORDINARY, (0, 3, 2), GREAT + 1), ((0, 3, 2), "room")),
            (with_part(ORDINARY, (0, 3, 2), True), ((0, 3, 2), "room")),
            (with_part(ORDINARY, (0, 3, 2), None), ((0, 3, 2), "room")),
            (with_part(ORDINARY, (0, 3, 2), 10 ** 29), ((0, 3, 2), "room")),
            (with_part(ORDINARY, (1, 1), (3,)), ((1, 1), "order")),
            (with_part(ORDINARY, (1, 1), (3, 2, 2)), ((1, 1), "order")),
            (with_part(ORDINARY, (1, 1), (3, 3)), ((1, 1), "order")),
            (with_part(ORDINARY, (1, 1), (3, 1)), ((1, 1), "order")),
            (with_part(ORDINARY, (1, 1), [3, 2]), ((1, 1), "order")),
            (with_part(ORDINARY, (1, 0), (True,)), ((1, 0), "order")),
            (with_part(ORDINARY, (1, 0), ((1,),)), ((1, 0), "order")),
            (with_part(ORDINARY, (1, 2), None), ((1, 2), "order")),
            (with_part(ORDINARY, (1, 2), (0,)), ((1, 2), "order")),
            (with_part(ORDINARY, (2, 1), (4, True)), ((2, 1), "order")),
            (with_part(ORDINARY, (2, 0), ("0", 2)), ((2, 0), "order")),
            (with_part(ORDINARY, (2, 2), []), ((2, 2), "order")),
        ]:
            self.assertEqual(unchanged(self, webfault, thing), fault, thing)

    def test_the_first_of_two_faults(self):
        roads, gives, takes = ORDINARY
        road = with_part(ORDINARY, (0, 1), ())
        for thing, fault in [
            (([], (), [], []), ((), "web")),
            (([], (), []), ((1,), "gives")),
            (([], gives, []), ((2,), "takes")),
            (([], ([],) * 3, takes), ((0,), "roads")),
            (with_part(road, (0, 0, 2), -1), ((0, 0, 2), "room")),
            (with_part(road, (0, 2, 0), -1), ((0, 1), "road")),
            (with_part(ORDINARY, (0, 1), (9, 9, -1)), ((0, 1, 0), "begin")),
            (with_part(ORDINARY, (0, 1), (0, 9, -1)), ((0, 1, 1), "end")),
            (with_part(ORDINARY, (0, 1), (0, 0, -1)), ((0, 1), "alike")),
            (with_part(with_part(ORDINARY, (1, 0), ()), (0, 4, 2), -1), ((0, 4, 2), "room")),
            (with_part(with_part(ORDINARY, (2, 0), ()), (1, 1), ()), ((1, 1), "order")),
            (with_part(with_part(ORDINARY, (1, 2), (0,)), (1, 1), ()), ((1, 1), "order")),
            (with_part(with_part(ORDINARY, (2, 2), (0,)), (2, 1), ()), ((2, 1), "order")),
        ]:
            self.assertEqual(webfault(thing), fault, thing)

    def test_whatever_it_is(self):
        for thing in odd_things():
            self.assertEqual(unchanged(self, webfault, thing), plain_fault(thing))
        roads, gives, takes = ORDINARY
        for odd in odd_things():
            for thing in [(odd, gives, takes), (roads, odd, takes), (roads, gives, odd), (odd, odd, odd),
                          with_part(ORDINARY, (0, 1), odd), with_part(ORDINARY, (1, 1), odd),
                          with_part(ORDINARY, (2, 1), odd), with_part(ORDINARY, (0, 1, 2), odd)]:
                self.assertEqual(unchanged(self, webfault, thing), plain_fault(thing))
        self.assertEqual(webfault((deep(17), deep(17), deep(17))), ((0, 0), "road"))

    def test_webs_bent_at_each_place(self):
        seen = set()
        for web in [ORDINARY, any_web(dice_of(1), 4, 9, 3), any_web(dice_of(2), 1, 2, 3)]:
            for thing in bent(web):
                told = webfault(thing)
                self.assertEqual(told, plain_fault(thing), thing)
                seen.add(told and told[1])
        self.assertEqual(seen, WORDS | {None})


class Doors(unittest.TestCase):
    def test_webs_with_and_without(self):
        for web, coming, going in [
            (ORDINARY, (0, 4), (3,)),
            (web_of(2, [(0, 1, 7), (1, 0, 7)]), (), ()),
            (web_of(1, [(None, 0, 0)]), (0,), ()),
            (web_of(1, [(0, None, 0)]), (), (0,)),
            (web_of(2, [(0, None, 1), (0, 1, 1), (None, 1, 1), (1, None, 1), (None, 0, 1)]), (2, 4), (0, 3)),
        ]:
            self.assertEqual(unchanged(self, in_doors, web), coming)
            self.assertEqual(unchanged(self, out_doors, web), going)
            self.assertEqual(unchanged(self, doors, web), tuple(sorted(coming + going)))

    def test_any_webs(self):
        dice = dice_of(3)
        for turn in range(60):
            web = any_web(dice, dice.randint(1, 8), dice.randint(1, 20), 5, outside=dice.randint(1, 4))
            coming, going, both = in_doors(web), out_doors(web), doors(web)
            self.assertTrue(type(coming) is type(going) is type(both) is tuple)
            self.assertEqual(coming, tuple(k for k in range(len(web[0])) if web[0][k][0] is None))
            self.assertEqual(going, tuple(k for k in range(len(web[0])) if web[0][k][1] is None))
            self.assertEqual(both, tuple(sorted(coming + going)))


if __name__ == "__main__":
    unittest.main()
