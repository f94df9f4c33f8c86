import itertools
import unittest

from tests.made import (all_sharings, any_fair, dice_of, fair_from, great_webs, is_int, plain_in_all, plain_loose, ringing_webs,
                        row_of, unchanged)
from unturned.bounds import FAR
from unturned.fairs import is_sharing, loose
from unturned.leading import fair_of
from unturned.liking import both_liked
from unturned.settling import settle, settle_back

# Givers 0 and 1 like takers 0 and 1; these like it the other way about.
CROSS = fair_from([(0, 0, 1), (0, 1, 1), (1, 1, 1), (1, 0, 1)], [1, 1], [1, 1],
                  {0: (0, 1), 1: (2, 3)}, {0: (3, 0), 1: (1, 2)})


def two_crosses(many):
    """Two such fairs side by side, with many for one: of each the one or the other may be had, or some of both."""
    ties = [(0, 0, many), (0, 1, many), (1, 1, many), (1, 0, many), (2, 2, many), (2, 3, many), (3, 3, many), (3, 2, many)]
    return fair_from(ties, [many] * 4, [many] * 4, {0: (0, 1), 1: (2, 3), 2: (4, 5), 3: (6, 7)},
                     {0: (3, 0), 1: (1, 2), 2: (7, 4), 3: (5, 6)})


TWICE = two_crosses(1)


def settled_ones(fair):
    return [sharing for sharing in all_sharings(fair) if not plain_loose(fair, sharing)]


def round_fair(many, much=1, room=1):
    """So many givers and takers, all with ties; givers like them one way round, takers the other way."""
    ties = [(g, t, room) for g in range(many) for t in range(many)]
    givers = {g: tuple(g * many + (g + step) % many for step in range(many)) for g in range(many)}
    takers = {t: tuple(((t + step) % many) * many + t for step in range(1, many + 1)) for t in range(many)}
    return fair_from(ties, [much] * many, [much] * many, givers, takers)


def fairs():
    dice = dice_of(131)
    for turn in range(60):
        yield any_fair(dice, dice.randint(1, 3), dice.randint(1, 3), dice.randint(2, 6), 2, 3, least=1)
    for turn in range(30):
        yield any_fair(dice, 2, 2, 6, dice.randint(1, 2), 2, least=1)
    yield from (CROSS, TWICE, two_crosses(2), round_fair(2), round_fair(3), round_fair(2, 2, 2), round_fair(2, 3, 3))


class BothLiked(unittest.TestCase):
    def look_at(self, fair, one, other):
        ties, givers, takers = fair
        told = both_liked(fair, one, other)
        self.assertEqual([type(told), len(told)], [tuple, 2])
        better, worse = told
        for sharing in told:
            self.assertEqual((type(sharing), len(sharing)), (tuple, len(ties)))
            self.assertTrue(all(is_int(bears) for bears in sharing))
            self.assertTrue(is_sharing(fair, sharing))
            self.assertEqual(loose(fair, sharing), ())
            self.assertEqual(plain_loose(fair, sharing), ())
            self.assertEqual(plain_in_all(fair, sharing), plain_in_all(fair, one))
        for seat in givers:
            rows = [row_of(seat, one), row_of(seat, other)]
            self.assertEqual((row_of(seat, better), row_of(seat, worse)), (max(rows), min(rows)))
        for seat in takers:
            self.assertGreaterEqual(row_of(seat, worse), max(row_of(seat, one), row_of(seat, other)))
        self.assertEqual([b + w for b, w in zip(better, worse)], [a + b for a, b in zip(one, other)])
        self.assertEqual(both_liked(fair, other, one), told)
        return told

    def test_told_ones(self):
        first, last = (1, 0, 1, 0), (0, 1, 0, 1)
        self.assertEqual(settled_ones(CROSS), [last, first])
        self.assertEqual(unchanged(self, both_liked, CROSS, first, last), (first, last))
        self.assertEqual(unchanged(self, both_liked, CROSS, last, first), (first, last))
        # Of each of both fairs side by side what is better.
        self.assertEqual(both_liked(TWICE, first + last, last + first), (first + first, last + last))
        self.assertEqual(both_liked(TWICE, last + last, first + last), (first + last, last + last))

    def test_the_same_one_twice(self):
        for fair in fairs():
            for one in settled_ones(fair):
                self.assertEqual(both_liked(fair, one, one), (one, one))

    def test_each_two_of_small_fairs(self):
        unlike, mixed = 0, 0
        for fair in fairs():
            settled = settled_ones(fair)
            self.assertTrue(settled)
            for one, other in itertools.product(settled, repeat=2):
                told = self.look_at(fair, one, other)
                unlike += one != other
                mixed += set(told) != {one, other}
        self.assertGreater(unlike, 60)
        self.assertGreater(mixed, 5)

    def test_the_first_unlike_tie_tells(self):
        # Givers that have two ties at a time, so that they lose by one and win by another.
        fair = round_fair(3, 2)
        settled = settled_ones(fair)
        self.assertGreater(len(settled), 1)
        for one, other in itertools.combinations(settled, 2):
            self.look_at(fair, one, other)

    def test_best_and_last_ones(self):
        for web in [*great_webs(), *ringing_webs()]:
            fair = fair_of(web)
            first, last = settle(fair), settle_back(fair)
            self.assertEqual(self.look_at(fair, first, last), (first, last))
        great = round_fair(5, FAR, FAR // 3)
        self.assertEqual(self.look_at(great, settle(great), settle_back(great)), (settle(great), settle_back(great)))


if __name__ == "__main__":
    unittest.main()
