import unittest

from tests.made import (AGAINST, RING, all_pairs, bent, dice_of, great_webs, is_int, odd_things, plain_calms,
                        plain_stream, ringing_webs, small_webs, swaps, unchanged, web_of)
from unturned.bounds import GREAT
from unturned.leading import calm, last_calm
from unturned.pairs import is_pair, joined, liked, met

LINE = web_of(2, [(None, 0, 2), (0, 1, 3), (1, None, 1)])


def plain_look(web, thing):
    """is_pair by [20], whatever it is, written another way."""
    if type(thing) is not tuple or len(thing) != 2 or [part for part in thing if type(part) is not tuple]:
        return False
    stream, lot = thing
    if not all(is_int(number) for number in stream + lot) or len(stream) != len(web[0]):
        return False
    if not plain_stream(web, stream) or not set(lot) <= set(range(len(web[1]))) or list(lot) != sorted(set(lot)):
        return False
    return plain_calms(web, stream, lot)


def comes(web, house, pair):
    return sum(bears for bears, road in zip(pair[0], web[0]) if road[1] == house)


def plain_liked(web, house, one, other):
    """(which case, liked) by [20], written another way."""
    of_one, of_other = house in one[1], house in other[1]
    going = web[1][house]
    if of_one != of_other:
        return ("unlike", 1 if of_other else -1)
    if of_one:
        return ("both", any(one[0][k] > other[0][k] for k in going) - any(one[0][k] < other[0][k] for k in going))
    if comes(web, house, one) != comes(web, house, other):
        return ("less", 1 if comes(web, house, one) < comes(web, house, other) else -1)
    unlike = [k for k in going if one[0][k] != other[0][k]]
    if unlike:
        return ("first", 1 if one[0][unlike[0]] > other[0][unlike[0]] else -1)
    return ("alike", 0)


def some_pairs(web, most=24):
    """All pairs, or some of them where there are many."""
    pairs = all_pairs(web)
    return pairs if len(pairs) <= most else dice_of(len(pairs)).sample(pairs, most)


def of_two_pairs():
    for web in list(small_webs()) + list(ringing_webs()):
        pairs = some_pairs(web)
        for one in pairs:
            for other in pairs:
                yield web, one, other


class IsPair(unittest.TestCase):
    def look(self, web, thing, right):
        self.assertIs(unchanged(self, is_pair, web, thing), right, thing)
        self.assertIs(plain_look(web, thing), right, thing)

    def test_told_ones(self):
        self.look(LINE, ((1, 1, 1), (0, 1)), True)
        for thing in [((1, 1, 1), ()), ((1, 1, 1), (0,)), ((1, 1, 1), (1,)), ((0, 0, 0), ()), ((0, 0, 0), (0, 1)),
                      ((2, 2, 2), (0, 1)), ((1, 1, 0), (0, 1)), ((1, 1), (0, 1)), ((1, 1, 1, 0), (0, 1)),
                      ((1, 1, 1), (1, 0)), ((1, 1, 1), (0, 1, 1)), ((1, 1, 1), (0, 1, 2)), ((1, 1, 1), [0, 1]),
                      ([1, 1, 1], (0, 1)), [(1, 1, 1), (0, 1)], ((1, 1, True), (0, 1)), ((1, 1, 1), (0, True)),
                      ((1, 1, 1), (False, 1)), ((1, 1, 1), (0, 1), ()), ((1, 1, 1),), ((0, 1), (1, 1, 1)), (),
                      ((1, 1, 1), None), (None, (0, 1)), ((1, 1, -1), (0, 1)), ((1, 1, 1), 0), ((1, "1", 1), (0, 1))]:
            self.look(LINE, thing, False)
        for lot in [(), (0, 1, 2)]:
            self.look(RING, ((0, 0, 0), lot), True)
            self.look(RING, ((1, 1, 1), lot), True)
            self.look(RING, ((1, 1, 2), lot), False)

    def test_whatever_it_is(self):
        for web, pair in [(LINE, ((1, 1, 1), (0, 1))), (RING, ((2, 2, 2), (1, 2))), (RING, ((0, 0, 0), ()))]:
            for thing in odd_things() + list(bent(pair)):
                self.look(web, thing, plain_look(web, thing))

    def test_great_ones(self):
        for web in great_webs():
            for pair in (calm(web), last_calm(web)):
                self.assertIs(is_pair(web, pair), True)
                self.assertIs(is_pair(web, (pair[0][:-1] + (pair[0][-1] + 1,), pair[1])), False)


class Liked(unittest.TestCase):
    def test_told_ones(self):
        one, other = ((0, 0, 0), ()), ((1, 1, 1), (0, 1, 2))
        for house in range(3):
            # The house isn't of the lot of the first one.
            self.assertEqual(unchanged(self, liked, RING, house, one, other), 1)
            self.assertEqual(unchanged(self, liked, RING, house, other, one), -1)
            # Of both lots: the one that bears more.
            self.assertEqual(liked(RING, house, other, ((2, 2, 2), (0, 1, 2))), -1)
            self.assertEqual(liked(RING, house, ((2, 2, 2), (0, 1, 2)), other), 1)
            # Of neither: the one by which less comes.
            self.assertEqual(liked(RING, house, one, ((1, 1, 1), ())), 1)
            self.assertEqual(liked(RING, house, ((1, 1, 1), ()), one), -1)
            self.assertEqual(liked(RING, house, one, one), 0)
            self.assertEqual(liked(RING, house, other, other), 0)
        # As much comes to house 1: the one that bears more on road 1, that it likes best, is better there.
        web = web_of(2, [(1, 0, 1), (1, 0, 1), (0, 1, 1)], {1: (1, 0)})
        one, other = ((0, 1, 1), ()), ((1, 0, 1), (0,))
        self.assertIs(is_pair(web, one) and is_pair(web, other), True)
        self.assertEqual(liked(web, 1, one, other), 1)
        self.assertEqual(liked(web, 1, other, one), -1)

    def test_all_pairs_of_small_webs(self):
        seen = {}
        for web, one, other in of_two_pairs():
            for house in range(len(web[1])):
                case, right = plain_liked(web, house, one, other)
                told = liked(web, house, one, other)
                self.assertTrue(is_int(told))
                self.assertEqual(told, right)
                self.assertEqual(liked(web, house, other, one), -right)
                seen[case, right] = seen.get((case, right), 0) + 1
        for case in [("unlike", 1), ("both", 1), ("both", 0), ("less", 1), ("first", 1), ("alike", 0)]:
            self.assertGreater(seen.get(case, 0), 20, (case, seen))

    def test_the_one_or_the_other_bears_no_less(self):
        for web, one, other in of_two_pairs():
            for house in range(len(web[1])):
                if (house in one[1]) == (house in other[1]):
                    roads = web[1 if house in one[1] else 2][house]
                    self.assertTrue(all(one[0][k] >= other[0][k] for k in roads)
                                    or all(one[0][k] <= other[0][k] for k in roads))


class JoinedAndMet(unittest.TestCase):
    def look_at(self, web, one, other):
        told, rest = joined(web, one, other), met(web, one, other)
        self.assertTrue(plain_look(web, told), (web, one, other))
        self.assertTrue(plain_look(web, rest), (web, one, other))
        self.assertEqual(told[1], tuple(sorted(set(one[1]) & set(other[1]))))
        self.assertEqual(rest[1], tuple(sorted(set(one[1]) | set(other[1]))))
        for k, (begin, end, room) in enumerate(web[0]):
            self.assertEqual(told[0][k] + rest[0][k], one[0][k] + other[0][k])
            better = one if begin is None or plain_liked(web, begin, one, other)[1] >= 0 else other
            self.assertEqual(told[0][k], better[0][k])
        return told, rest

    def test_told_ones(self):
        one, other = ((0, 0, 0), ()), ((1, 1, 1), (0, 1, 2))
        self.assertEqual(unchanged(self, joined, RING, one, other), one)
        self.assertEqual(unchanged(self, met, RING, one, other), other)
        one, other = ((0, 0, 0), (0, 1, 2)), ((1, 1, 1), ())
        self.assertEqual(unchanged(self, joined, RING, one, other), other)
        self.assertEqual(unchanged(self, met, RING, one, other), ((0, 0, 0), (0, 1, 2)))
        # The one is better at the first two houses, the other one at the last two.
        web = swaps(1)
        one = ((1, 0, 1, 0, 0, 1, 0, 1), (2, 3))
        other = ((0, 1, 0, 1, 1, 0, 1, 0), (0, 1))
        self.assertEqual(self.look_at(web, one, other), (((1, 0, 1, 0, 1, 0, 1, 0), ()),
                                                         ((0, 1, 0, 1, 0, 1, 0, 1), (0, 1, 2, 3))))
        # Doors bear the same in both.
        one, other = calm(AGAINST), last_calm(AGAINST)
        self.assertNotEqual(one, other)
        self.assertEqual(self.look_at(AGAINST, other, one), (one, other))

    def test_small_webs(self):
        neither = 0
        for web, one, other in of_two_pairs():
            told, rest = self.look_at(web, one, other)
            neither += told not in (one, other)
            self.assertEqual(joined(web, other, one), told)
            self.assertEqual(met(web, other, one), rest)
            if one == other:
                self.assertEqual((told, rest), (one, one))
        self.assertGreater(neither, 50)

    def test_best_and_last_of_all(self):
        for web in list(small_webs()) + list(ringing_webs()):
            first, last = calm(web), last_calm(web)
            for pair in all_pairs(web):
                self.assertEqual((joined(web, first, pair), joined(web, pair, first)), (first, first))
                self.assertEqual((met(web, last, pair), met(web, pair, last)), (last, last))
                self.assertEqual((met(web, first, pair), joined(web, last, pair)), (pair, pair))

    def test_great_webs(self):
        unlike = 0
        for web in great_webs():
            first, last = calm(web), last_calm(web)
            unlike += first[0] != last[0]
            self.assertEqual(self.look_at(web, first, last), (first, last))
            self.assertEqual(self.look_at(web, last, first), (first, last))
            self.assertEqual(self.look_at(web, last, last), (last, last))
        self.assertGreater(unlike, 5)
        web = swaps(GREAT)
        one = ((GREAT, 0, GREAT, 0, 0, GREAT, 0, GREAT), (2, 3))
        other = ((0, GREAT, 0, GREAT, GREAT, 0, GREAT, 0), (0, 1))
        self.assertEqual(self.look_at(web, one, other)[0], ((GREAT, 0) * 4, ()))

    def test_asked_twice(self):
        for web, one, other in list(of_two_pairs())[::40]:
            for function in (joined, met):
                unchanged(self, function, web, one, other)


if __name__ == "__main__":
    unittest.main()
