import unittest

from tests.made import (all_sharings, any_fair, bent, dice_of, done, fair_from, odd_things, plain_in_all, plain_loose,
                        plain_sharing, row_of, unchanged, with_part)
from unturned.bounds import FAR, SEATS, TIES
from unturned.fairs import turned_fair
from unturned.settling import settle, settle_back, trail, trail_holds


def mill(many, extra, room=FAR):
    """Two givers that like their takers as those like them least, and a third one that sets them going round.

    Done unit by unit, what the third one gives goes round as many times as there are units.
    """
    ties = [(0, 0, room), (0, 1, room), (1, 1, room), (1, 0, room), (2, 0, room)]
    return fair_from(ties, [many, many, extra], [many, many], {0: (0, 1), 1: (2, 3)}, {0: (4, 3, 0), 1: (1, 2)})


def small_fairs():
    dice = dice_of(31)
    for turn in range(120):
        yield any_fair(dice, dice.randint(1, 3), dice.randint(1, 3), dice.randint(0, 5), 2, dice.randint(1, 5))
    for turn in range(25):
        yield any_fair(dice, dice.randint(2, 3), dice.randint(2, 3), 7, 1, dice.randint(1, 3), least=1)
    for turn in range(10):
        yield any_fair(dice, 2, 2, 5, 3, 5, least=1)
    yield mill(2, 1, 2)
    yield mill(3, 2, 3)


def great_fairs():
    dice = dice_of(32)
    for turn in range(30):
        yield any_fair(dice, SEATS, SEATS, TIES, FAR, FAR)
    for givers, takers in [(6, 6), (3, 3), (2, 9), (9, 2), (4, 5), (1, 1), (1, SEATS), (SEATS, 1), (SEATS, 3)]:
        for turn in range(12):
            yield any_fair(dice, givers, takers, TIES, FAR, FAR, least=FAR - 10 ** dice.choice((2, 14)))
            yield any_fair(dice, givers, takers, TIES, FAR, FAR)
            # Rooms that never bind, so that what is given up goes far round.
            fair = any_fair(dice, givers, takers, TIES, FAR, FAR, least=FAR // 2)
            yield (tuple((g, t, FAR) for g, t, room in fair[0]),) + fair[1:]
    for extra in (1, 2, 3, 10 ** 6 + 1, FAR):
        yield mill(FAR, extra)
        yield mill(FAR - 1, extra)


def full_size():
    """A fair of SEATS seats a side, much and rooms all FAR but for one giver's."""
    ties = [(s, s, FAR) for s in range(SEATS)] + [(s, (s + 1) % 7, FAR) for s in range(8)]
    taker_orders = {s: tuple(k for k in range(len(ties))[::-1] if ties[k][1] == s) for s in range(SEATS)}
    return fair_from(ties, [1] + [FAR] * (SEATS - 1), [FAR] * SEATS, {}, taker_orders)


class Small(unittest.TestCase):
    def test_best_of_all_settled_ones(self):
        several = 0
        for fair in small_fairs():
            settled = [sharing for sharing in all_sharings(fair) if not plain_loose(fair, sharing)]
            first, last = settle(fair), settle_back(fair)
            self.assertIn(first, settled)
            self.assertIn(last, settled)
            several += len(settled) > 1
            for other in settled:
                self.assertEqual(plain_in_all(fair, other), plain_in_all(fair, first))
                for giver in fair[1]:
                    self.assertLessEqual(row_of(giver, other), row_of(giver, first))
                for taker in fair[2]:
                    self.assertLessEqual(row_of(taker, other), row_of(taker, last))
        self.assertGreater(several, 10)

    def test_told_ones(self):
        # Both givers like taker 0 better; it likes giver 1 better.
        fair = fair_from([(0, 0, 5), (0, 1, 5), (1, 0, 5), (1, 1, 5)], [3, 4], [5, 5], {}, {0: (2, 0), 1: (1, 3)})
        self.assertEqual(unchanged(self, settle, fair), (1, 2, 4, 0))
        self.assertEqual(unchanged(self, settle_back, fair), (1, 2, 4, 0))
        # Givers and takers like the others the other way about.
        fair = fair_from([(0, 0, 9), (0, 1, 9), (1, 0, 9), (1, 1, 9)], [4, 4], [4, 4], {1: (3, 2)}, {0: (2, 0), 1: (1, 3)})
        self.assertEqual(settle(fair), (4, 0, 0, 4))
        self.assertEqual(settle_back(fair), (0, 4, 4, 0))
        self.assertEqual(settle(mill(5, 1)), (0, 5, 0, 4, 1))
        self.assertEqual(settle(mill(5, 9)), (0, 5, 0, 0, 5))

    def test_where_nothing_can_be_shared(self):
        for fair in [fair_from([], [0], [0]), fair_from([], [5, 5], [5]), fair_from([(0, 0, 0)], [5], [5]),
                     fair_from([(0, 0, 5)], [0], [5]), fair_from([(0, 0, 5)], [5], [0])]:
            still = (0,) * len(fair[0])
            self.assertEqual(unchanged(self, settle, fair), still)
            self.assertEqual(unchanged(self, settle_back, fair), still)
            self.assertEqual(unchanged(self, trail, fair), ())
            self.assertIs(trail_holds(fair, ()), True)

    def test_several_ties_between_the_same_two(self):
        fair = fair_from([(0, 0, 2), (0, 0, 2), (0, 0, 2)], [3], [9], {0: (2, 0, 1)}, {0: (1, 0, 2)})
        self.assertEqual(settle(fair), (1, 0, 2))
        fair = fair_from([(0, 0, 2), (0, 0, 2), (0, 0, 2)], [3], [3], {0: (2, 0, 1)}, {0: (1, 0, 2)})
        self.assertEqual(settle(fair), (1, 0, 2))
        self.assertEqual(settle_back(fair), (1, 2, 0))

    def test_turned_about(self):
        for fair in small_fairs():
            self.assertEqual(settle_back(fair), settle(turned_fair(fair)))
            self.assertEqual(settle(fair), settle_back(turned_fair(fair)))


class Great(unittest.TestCase):
    def test_settled_however_great(self):
        for fair in [full_size(), *great_fairs()]:
            first, last = settle(fair), settle_back(fair)
            for told in (first, last):
                self.assertIs(type(told), tuple)
                self.assertEqual({type(bears) for bears in told}, {int})
                self.assertTrue(plain_sharing(fair, told))
                self.assertEqual(plain_loose(fair, told), ())
            self.assertEqual(plain_in_all(fair, first), plain_in_all(fair, last))
            for giver in fair[1]:
                self.assertLessEqual(row_of(giver, last), row_of(giver, first))
            for taker in fair[2]:
                self.assertLessEqual(row_of(taker, first), row_of(taker, last))
            self.assertEqual(last, settle(turned_fair(fair)))

    def test_asked_twice(self):
        fair = any_fair(dice_of(33), SEATS, SEATS, TIES, FAR, FAR)
        for function in (settle, settle_back, trail):
            unchanged(self, function, fair)

    def test_round_and_round(self):
        self.assertEqual(settle(mill(FAR, 1)), (0, FAR, 0, FAR - 1, 1))
        self.assertEqual(settle(mill(FAR, FAR)), (0, FAR, 0, 0, FAR))


class Trail(unittest.TestCase):
    def look_at(self, fair):
        rows = trail(fair)
        self.assertIs(type(rows), tuple)
        self.assertLessEqual(len(rows), 2 * len(fair[0]) + len(fair[1]) + len(fair[2]))
        for row in rows:
            self.assertEqual([type(row), len(row), type(row[0]), type(row[1])], [tuple, 2, tuple, int])
            self.assertGreaterEqual(len(row[0]), 1)
            self.assertGreaterEqual(row[1], 1)
            for tie in row[0]:
                self.assertIs(type(tie), int)
                self.assertIn(tie, range(len(fair[0])))
        behind = done(fair, rows)
        for sharing in behind:
            self.assertTrue(plain_sharing(fair, sharing))
        self.assertEqual(behind[-1], settle(fair))
        self.assertIs(trail_holds(fair, rows), True)

    def test_small_fairs(self):
        for fair in small_fairs():
            self.look_at(fair)
            self.look_at(turned_fair(fair))

    def test_great_fairs(self):
        for fair in [full_size(), *great_fairs()]:
            self.look_at(fair)
            self.look_at(turned_fair(fair))


def plain_holds(fair, thing):
    """trail_holds by [13], of a thing whose form is right."""
    behind = done(fair, thing)
    return all(plain_sharing(fair, sharing) for sharing in behind) and not plain_loose(fair, behind[-1])


def right_form(fair, thing):
    """Whether it is a tuple of rows (ties, many)."""
    return type(thing) is tuple and all(
        type(row) is tuple and len(row) == 2 and type(row[0]) is tuple and row[0] and type(row[1]) is int and row[1] > 0
        and all(type(tie) is int and tie in range(len(fair[0])) for tie in row[0]) for row in thing)


# Settled sharings are (4, 0, 0, 4), (0, 4, 4, 0) and all between.
SWAP = fair_from([(0, 0, 9), (0, 1, 9), (1, 0, 9), (1, 1, 9)], [4, 4], [4, 4], {1: (3, 2)}, {0: (2, 0), 1: (1, 3)})


class TrailHolds(unittest.TestCase):
    def test_other_trails(self):
        for thing in [
            (((0,), 4), ((3,), 4)),
            (((1,), 4), ((2,), 4)),
            (((1,), 2), ((2,), 2), ((0,), 2), ((3,), 2)),
            (((0,), 4), ((3,), 4), ((1, 0, 2, 3), 1)),
            (((0,), 4), ((3,), 4), ((1, 0, 2, 3), 4), ((0, 1, 3, 2), 4), ((1, 0, 2, 3), 3)),
            (((0, 0, 0), 4), ((3,), 4)),
            (((0, 1, 1), 4), ((3,), 4)),
            (((0, 1, 3, 2, 1, 3, 2), 1), ((0,), 3), ((3,), 4)),
            tuple(((0,), 1) for k in range(4)) + tuple(((3,), 1) for k in range(4)),
            (((3,), 4),) + (((0,), 1), ((1, 0, 0, 1), 1)) * 3 + (((0,), 1),),
            (((0, 0), 10 ** 29), ((0,), 4), ((3,), 4)),
        ]:
            self.assertIs(unchanged(self, trail_holds, SWAP, thing), True, thing)
        many = (((0,), 1), ((3,), 1)) + (((1, 0, 2, 3), 1), ((0, 1, 3, 2), 1)) * 50 + (((0,), 3), ((3,), 3))
        self.assertGreater(len(many), 2 * 4 + 4)
        self.assertIs(trail_holds(SWAP, many), True)

    def test_what_is_no_trail(self):
        right = (((0,), 4), ((3,), 4))
        for thing in [
            (), right[:1], right[1:], right + (((0,), 1),), list(right), None, True, "", {}, (right,), ((),), ((0, 4),),
            (((0,), 5), ((3,), 4)),                  # a seat with more than its much
            (((0,), 10), ((3,), 4)),                 # a tie with more than its room
            (((0,), 4), ((3,), 5), ((1, 3), 1)),     # at last as it ought to be, but not behind each row
            (((1, 0), 1), ((0,), 4), ((3,), 4)),     # less than 0
            (((1, 0), 1), ((0, 1), 1), ((0,), 4), ((3,), 4)),
            (((0,), 3), ((3,), 4)),                  # loosened
            (((0,), 4), ((3,), 4), ((0,), 0)), (((0,), 0),), (((0,), -4), ((3,), 4)),
            (((0,), 4), ((3,), True), ((3,), 3)), (((0,), 4), ((3,), "4")), (((0,), 4), ((3,), None)),
            (((0,), 4), ((3,), (4,))), (((0,), 4), ((), 4), ((3,), 4)), (((0,), 4), ((), 1), ((3,), 4)),
            (((0,), 4), ([3], 4)), ([(0,), 4], ((3,), 4)), (((0,), 4), ((4,), 4)), (((0,), 4), ((-1,), 4)),
            (((False,), 4), ((3,), 4)), ((("0",), 4), ((3,), 4)), (((0,), 4, 4), ((3,), 4)), (((0,),), ((3,), 4)),
            ((0, 4), (3, 4)), (((None,), 4), ((3,), 4)), ((((0,),), 4), ((3,), 4)), (((0,), 10 ** 29), ((3,), 4)),
            (("03", 4),), (({}, 4),), right + (None,), (None,) + right, right + ((),),
        ]:
            self.assertIs(unchanged(self, trail_holds, SWAP, thing), False, thing)

    def test_whatever_it_is(self):
        for odd in odd_things():
            for thing in [odd, (odd,), (odd, odd), ((odd, 1),), (((0,), odd),), ((odd, odd),)]:
                if right_form(SWAP, thing):
                    self.assertIs(trail_holds(SWAP, thing), plain_holds(SWAP, thing))
                else:
                    self.assertIs(unchanged(self, trail_holds, SWAP, thing), False)

    def test_bent_at_any_place(self):
        seen = set()
        for fair in [SWAP, mill(5, 1), any_fair(dice_of(35), 4, 4, 9, 5, 5, least=2)]:
            for thing in bent(trail(fair)):
                right = right_form(fair, thing) and plain_holds(fair, thing)
                self.assertIs(trail_holds(fair, thing), bool(right), thing)
                seen.add(bool(right))
        self.assertEqual(seen, {True, False})

    def test_great_ones(self):
        for fair in [mill(FAR, 1), full_size(), any_fair(dice_of(36), SEATS, SEATS, TIES, FAR, FAR, least=1)]:
            rows = trail(fair)
            self.assertIs(trail_holds(fair, rows), True)
            # What settle_back tells is settled too, tie by tie.
            back = tuple(((tie,), bears) for tie, bears in enumerate(settle_back(fair)) if bears)
            self.assertIs(trail_holds(fair, back), True)
            for at, (ties, many) in enumerate(rows):
                self.assertIs(trail_holds(fair, with_part(rows, (at, 1), many + FAR)), False)
                self.assertIs(trail_holds(fair, with_part(rows, (at, 1), 0)), False)


if __name__ == "__main__":
    unittest.main()
