import unittest

from tests.made import (all_sharings, any_fair, bent, deep, dice_of, fair_from, is_int, odd_things, plain_in_all,
                        plain_loose, plain_sharing, unchanged, with_part)
from unturned.bounds import FAR, SEATS, TIES
from unturned.fairs import in_all, is_fair, is_sharing, loose, turned_fair

# Two givers, three takers, two ties between the same two.
ORDINARY = fair_from([(0, 0, 2), (0, 1, 3), (1, 0, 1), (0, 0, 4)], [5, 2], [3, 3, 0], {0: (1, 3, 0)}, {0: (2, 0, 3)})
NO_TIES = fair_from([], [0], [0])


def plain_fair(thing):
    """is_fair by [11], written another way."""
    def rows(part, least, most):
        return type(part) is tuple and least <= len(part) <= most

    def upto(part, most):
        return is_int(part) and part in range(most + 1)
    if not rows(thing, 3, 3) or not rows(thing[0], 0, 36) or not rows(thing[1], 1, 28) or not rows(thing[2], 1, 28):
        return False
    for tie in thing[0]:
        if not (rows(tie, 3, 3) and upto(tie[0], len(thing[1]) - 1) and upto(tie[1], len(thing[2]) - 1)
                and upto(tie[2], 10 ** 15)):
            return False
    for side in (0, 1):
        for s, seat in enumerate(thing[side + 1]):
            if not (rows(seat, 2, 2) and upto(seat[0], 10 ** 15) and rows(seat[1], 0, 36) and all(map(is_int, seat[1]))):
                return False
            if sorted(seat[1]) != [k for k, tie in enumerate(thing[0]) if tie[side] == s]:
                return False
    return True


def plain_is_sharing(fair, thing):
    return type(thing) is tuple and len(thing) == len(fair[0]) and all(map(is_int, thing)) and plain_sharing(fair, thing)


class IsFair(unittest.TestCase):
    def test_at_the_bounds(self):
        dice = dice_of(21)
        for fair in [
            ORDINARY, NO_TIES,
            fair_from([(0, 0, FAR)], [FAR], [FAR]),
            fair_from([(0, 0, 0)], [0], [0]),
            fair_from([(0, 0, 1)] * TIES, [1], [1], {0: tuple(range(TIES))[::-1]}),
            any_fair(dice, SEATS, SEATS, TIES, FAR, FAR),
            any_fair(dice, SEATS, 1, TIES, FAR, FAR),
            any_fair(dice, 1, SEATS, TIES, FAR, FAR),
            any_fair(dice, SEATS, SEATS, 0, FAR, FAR),
        ]:
            self.assertIs(unchanged(self, is_fair, fair), True)

    def test_beyond_the_bounds(self):
        dice = dice_of(22)
        for fair in [
            any_fair(dice, SEATS + 1, SEATS, 3, 3, 3),
            any_fair(dice, SEATS, SEATS + 1, 3, 3, 3),
            any_fair(dice, SEATS, SEATS, TIES + 1, 3, 3),
            fair_from([], [], [1]),
            fair_from([], [1], []),
            fair_from([(0, 0, FAR + 1)], [FAR], [FAR]),
            fair_from([(0, 0, FAR)], [FAR + 1], [FAR]),
            fair_from([(0, 0, FAR)], [FAR], [FAR + 1]),
            fair_from([(0, 0, -1)], [FAR], [FAR]),
            fair_from([(0, 0, 1)], [-1], [FAR]),
            fair_from([(0, 0, 1)], [FAR], [-1]),
            fair_from([(0, 1, 1)], [1], [1]),
            fair_from([(1, 0, 1)], [1], [1]),
            fair_from([(-1, 0, 1)], [1], [1]),
        ]:
            self.assertIs(unchanged(self, is_fair, fair), False)

    def test_orders(self):
        for path, order in [
            ((1, 0, 1), (1, 3)), ((1, 0, 1), (1, 3, 0, 0)), ((1, 0, 1), (1, 3, 3)), ((1, 0, 1), (1, 3, 2)),
            ((1, 0, 1), (1, 3, False)), ((1, 0, 1), (True, 3, 0)), ((1, 0, 1), [1, 3, 0]), ((1, 0, 1), None),
            ((1, 0, 1), (1, 3, None)), ((1, 0, 1), (1, 3, "0")), ((1, 0, 1), (1, 3, (0,))), ((1, 0, 1), (1, 3, 0, 4)),
            ((1, 1, 1), ()), ((1, 1, 1), (3,)), ((1, 1, 1), (-2,)), ((1, 1, 1), "2"),
            ((2, 0, 1), (2, 0)), ((2, 0, 1), (2, 0, 3, 1)), ((2, 0, 1), (2, False, 3)), ((2, 2, 1), (1,)),
            ((2, 1, 1), (True,)), ((2, 2, 1), []), ((2, 2, 1), {}),
        ]:
            self.assertIs(is_fair(with_part(ORDINARY, path, order)), False, order)
        self.assertIs(is_fair(with_part(ORDINARY, (1, 0, 1), (0, 1, 3))), True)

    def test_truths_are_no_numbers(self):
        fair = fair_from([(0, 1, 1), (1, 0, 1)], [1, 1], [1, 1])
        self.assertIs(is_fair(fair), True)
        for path in [(0, 0, 0), (0, 0, 1), (0, 0, 2), (1, 0, 0), (1, 0, 1, 0), (1, 1, 1, 0), (2, 0, 0), (2, 0, 1, 0)]:
            for truth in (True, False):
                self.assertIs(is_fair(with_part(fair, path, truth)), False, path)

    def test_whatever_it_is(self):
        for odd in odd_things():
            for thing in [odd, (odd,) * 3, (odd,) + ORDINARY[1:], (ORDINARY[0], odd, ORDINARY[2]), ORDINARY[:2] + (odd,),
                          with_part(ORDINARY, (0, 1), odd), with_part(ORDINARY, (1, 1), odd),
                          with_part(ORDINARY, (2, 1), odd), with_part(ORDINARY, (1, 1, 1), odd)]:
                self.assertIs(unchanged(self, is_fair, thing), plain_fair(thing), thing)
        self.assertIs(is_fair((deep(17), deep(17), deep(17))), False)

    def test_fairs_bent_at_each_place(self):
        seen = set()
        for fair in [ORDINARY, NO_TIES, any_fair(dice_of(23), 3, 2, 5, 3, 3)]:
            for thing in bent(fair):
                self.assertIs(is_fair(thing), plain_fair(thing), thing)
                seen.add(is_fair(thing))
        self.assertEqual(seen, {True, False})


class IsSharing(unittest.TestCase):
    def test_ordinary(self):
        for thing, right in [
            ((0, 0, 0, 0), True), ((2, 3, 1, 0), True), ((0, 2, 0, 3), True), ((0, 3, 1, 2), True),
            ((3, 0, 0, 0), False), ((0, 4, 0, 0), False), ((0, 0, 2, 0), False), ((0, 0, 0, 4), False),
            ((2, 0, 0, 2), False), ((1, 3, 0, 2), False), ((2, 0, 1, 1), False), ((2, 3, 0, 1), False),
            ((0, 0, 0), False), ((0, 0, 0, 0, 0), False), ((), False), ([0, 0, 0, 0], False), ((0, 0, 0, -1), False),
            ((True, 0, 0, 0), False), ((0, 0, 0, False), False), ((0, 0, None, 0), False), ((0, "0", 0, 0), False),
            ((0, (), [], {}), False), (None, False), ((0, 0, 0, 10 ** 29), False), ((-1, 1, 0, 1), False),
        ]:
            self.assertIs(unchanged(self, is_sharing, ORDINARY, thing), right, thing)
        self.assertIs(is_sharing(NO_TIES, ()), True)
        self.assertIs(is_sharing(NO_TIES, []), False)
        self.assertIs(is_sharing(NO_TIES, (0,)), False)

    def test_at_far(self):
        fair = fair_from([(0, 0, FAR), (0, 0, FAR)], [FAR], [FAR])
        self.assertIs(is_sharing(fair, (FAR, 0)), True)
        self.assertIs(is_sharing(fair, (1, FAR - 1)), True)
        self.assertIs(is_sharing(fair, (1, FAR)), False)
        self.assertIs(is_sharing(fair, (FAR + 1, 0)), False)
        self.assertIs(is_sharing(fair_from([(0, 0, FAR)] * 2, [FAR, FAR], [FAR]), (1, FAR)), False)
        wide = fair_from([(0, 0, FAR), (0, 1, FAR)], [FAR], [FAR, FAR])
        self.assertIs(is_sharing(wide, (1, FAR)), False)
        self.assertIs(is_sharing(wide, (1, FAR - 1)), True)

    def test_whatever_it_is(self):
        for thing in odd_things():
            self.assertIs(unchanged(self, is_sharing, ORDINARY, thing), plain_is_sharing(ORDINARY, thing))
        for thing in bent((1, 2, 1, 1)):
            self.assertIs(is_sharing(ORDINARY, thing), plain_is_sharing(ORDINARY, thing), thing)
        dice = dice_of(24)
        for turn in range(300):
            fair = any_fair(dice, 3, 2, dice.randint(0, 5), 4, 5)
            thing = tuple(dice.randint(-1, 4) for tie in fair[0])
            self.assertIs(is_sharing(fair, thing), plain_is_sharing(fair, thing))


class Looks(unittest.TestCase):
    def test_ordinary(self):
        self.assertEqual(unchanged(self, in_all, ORDINARY, (1, 2, 1, 1)), ((4, 1), (3, 2, 0)))
        # Giver 0 has less than its much; taker 0 is full, and tie 3 is the only one that it likes less than another.
        self.assertEqual(unchanged(self, loose, ORDINARY, (1, 2, 1, 1)), (0, 1))
        self.assertEqual(loose(ORDINARY, (0, 0, 0, 0)), (0, 1, 2, 3))
        self.assertEqual(loose(ORDINARY, (0, 3, 1, 2)), ())
        self.assertEqual(loose(ORDINARY, (2, 3, 1, 0)), ())
        self.assertEqual(loose(ORDINARY, (0, 3, 0, 2)), (2,))
        self.assertEqual(unchanged(self, turned_fair, ORDINARY),
                         (((0, 0, 2), (1, 0, 3), (0, 1, 1), (0, 0, 4)), ORDINARY[2], ORDINARY[1]))
        self.assertEqual(in_all(NO_TIES, ()), ((0,), (0,)))
        self.assertEqual(loose(NO_TIES, ()), ())
        self.assertEqual(turned_fair(NO_TIES), NO_TIES)

    def test_at_far(self):
        fair = fair_from([(0, 0, FAR), (0, 0, FAR)], [FAR], [FAR])
        self.assertEqual(in_all(fair, (1, FAR - 1)), ((FAR,), (FAR,)))
        self.assertEqual(loose(fair, (1, FAR - 1)), (0,))
        self.assertEqual(loose(fair, (FAR, 0)), ())
        self.assertEqual(loose(fair, (FAR - 1, 0)), (0, 1))

    def look_at(self, fair, sharing):
        has = in_all(fair, sharing)
        self.assertEqual(has, plain_in_all(fair, sharing))
        self.assertEqual([type(part) for part in (has,) + has], [tuple] * 3)
        told = loose(fair, sharing)
        self.assertIs(type(told), tuple)
        self.assertEqual(told, plain_loose(fair, sharing))
        about = turned_fair(fair)
        self.assertTrue(is_fair(about))
        self.assertTrue(is_sharing(about, sharing))
        self.assertEqual(loose(about, sharing), told)
        self.assertEqual(in_all(about, sharing), has[::-1])

    def test_against_plain_looks(self):
        dice = dice_of(25)
        for turn in range(25):
            fair = any_fair(dice, dice.randint(1, 3), dice.randint(1, 3), dice.randint(0, 4), 2, 4)
            self.assertEqual(turned_fair(turned_fair(fair)), fair)
            for sharing in all_sharings(fair):
                self.look_at(fair, sharing)

    def test_great_ones(self):
        dice = dice_of(26)
        for turn in range(15):
            fair = any_fair(dice, SEATS, SEATS, TIES, FAR, FAR)
            self.assertEqual(turned_fair(turned_fair(fair)), fair)
            sharing = tuple(dice.choice((0, min(tie[2], FAR // TIES, *[fair[side + 1][tie[side]][0] // TIES
                                                                      for side in (0, 1)]))) for tie in fair[0])
            self.assertTrue(is_sharing(fair, sharing))
            self.look_at(fair, sharing)


if __name__ == "__main__":
    unittest.main()
