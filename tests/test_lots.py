import itertools
import unittest

from tests.made import (RING, all_lots, all_streams, any_web, bent, dice_of, great_webs, is_int, odd_things, plain_calm,
                        plain_calms, small_webs, unchanged, web_of)
from unturned.bounds import GREAT, HOUSES, ROADS
from unturned.leading import calm, last_calm
from unturned.lots import calms, greatest_lot, is_calm, least_lot
from unturned.streams import nothing

# In to house 0 by 0, on to house 1 by 1, out by 2.
LINE = web_of(2, [(None, 0, 2), (0, 1, 3), (1, None, 1)])
# In to house 0 by 0; from it by 1 to house 1, and by 2, liked less, to house 2; out of both by 3 and 4.
FORK = web_of(3, [(None, 0, 3), (0, 1, 3), (0, 2, 3), (1, None, 3), (2, None, 3)])
# In by 0 and 1 to houses 0 and 1, on to house 2 by 2 and, liked less, by 3; out by 4.
MEET = web_of(3, [(None, 0, 3), (None, 1, 3), (0, 2, 3), (1, 2, 3), (2, None, 3)])


def plain_look(web, stream, thing):
    """calms by [9], whatever it is, written another way."""
    if type(thing) is not tuple or not all(is_int(house) for house in thing):
        return False
    return thing in set(all_lots(web)) and plain_calms(web, stream, thing)


class Calms(unittest.TestCase):
    def look(self, web, stream, thing, right):
        self.assertIs(unchanged(self, calms, web, stream, thing), right, (stream, thing))
        self.assertIs(plain_look(web, stream, thing), right, (stream, thing))

    def test_roads_from_outside(self):
        # The in-door has room left: it presses, and what it ends at is of the lot, and so on to the full out-door.
        for lot, right in [((), False), ((0,), False), ((1,), False), ((0, 1), True)]:
            self.look(LINE, (1, 1, 1), lot, right)
        for lot in all_lots(LINE):
            self.look(LINE, (0, 0, 0), lot, False)
        # Nothing presses at the full in-door; the out-door has room left, so its house isn't of the lot.
        web = web_of(2, [(None, 0, 1), (0, 1, 3), (1, None, 2)])
        for lot, right in [((), True), ((0,), False), ((1,), False), ((0, 1), False)]:
            self.look(web, (1, 1, 1), lot, right)

    def test_roads_of_houses_that_give_by_others_that_they_like_less(self):
        self.look(FORK, (3, 3, 0, 3, 0), (), True)
        self.look(FORK, (3, 3, 0, 3, 0), (1,), True)
        self.look(FORK, (3, 3, 0, 3, 0), (0,), False)
        self.look(FORK, (3, 3, 0, 3, 0), (2,), False)
        for lot in all_lots(FORK):
            self.look(FORK, (3, 2, 1, 2, 1), lot, False)
        # The out-door of house 1 is full: the road that house 0 likes better may press on it in vain.
        web = web_of(3, [(None, 0, 3), (0, 1, 3), (0, 2, 3), (1, None, 2), (2, None, 3)])
        self.look(web, (3, 2, 1, 2, 1), (1,), True)
        self.look(web, (3, 2, 1, 2, 1), (), False)
        self.look(web, (3, 2, 1, 2, 1), (0, 1), False)

    def test_roads_to_houses_that_take_by_others_that_they_like_less(self):
        self.look(MEET, (3, 0, 3, 0, 3), (1, 2), True)
        self.look(MEET, (3, 0, 3, 0, 3), (1,), False)
        self.look(MEET, (3, 0, 3, 0, 3), (0, 1, 2), True)
        for lot in all_lots(MEET):
            self.look(MEET, (2, 1, 2, 1, 3), lot, False)
            self.look(MEET, (0, 3, 0, 3, 3), lot, False)
        self.look(web_of(3, MEET[0], {}, {2: (3, 2)}), (0, 3, 0, 3, 3), (0, 2), True)

    def test_rings(self):
        for lot in all_lots(RING):
            self.look(RING, (0, 0, 0), lot, lot in ((), (0, 1, 2)))
            # The last road is full: nothing goes on from house 2 to house 0.
            self.look(RING, (2, 2, 2), lot, lot in ((), (2,), (1, 2), (0, 1, 2)))

    def test_no_lots(self):
        for thing in [[], [0, 1], (1, 0), (0, 0), (0, 0, 1), (0, 1, 1), (0, True), (False, 1), (False, True), (0, 1, 2),
                      (-1, 0, 1), (-2, -1), (0, -1), (0, 1, 10 ** 29), "01", ("0", "1"), (0, None), (0, (1,)), (0, [1]),
                      ((0, 1),), None, True, 0, {}, {"0": 1}, (0, 1, None), (None, 0, 1), (0, "", 1)]:
            self.look(LINE, (1, 1, 1), thing, False)
        for thing in [[], None, False, (False,), "", {}, (3,), (-1,), [0, 1, 2], (0, 2, 1), (0, 1, True), (0, 0, 1, 2)]:
            self.look(RING, (0, 0, 0), thing, False)

    def test_whatever_it_is(self):
        for web, stream, lot in [(LINE, (1, 1, 1), (0, 1)), (RING, (2, 2, 2), (1, 2)), (RING, (0, 0, 0), (0, 1, 2))]:
            for thing in odd_things() + list(bent(lot)):
                self.look(web, stream, thing, plain_look(web, stream, thing))

    def test_all_tuples_of_small_webs(self):
        dice = dice_of(51)
        for turn in range(30):
            houses = dice.randint(1, 3)
            web = any_web(dice, houses, dice.randint(2, 5), 2, outside=dice.randint(0, 2) if houses > 1 else 1)
            for stream in all_streams(web):
                told = {thing for many in range(5) for thing in itertools.product(range(-1, 4), repeat=many)
                        if calms(web, stream, thing)}
                self.assertEqual(told, {lot for lot in all_lots(web) if plain_calms(web, stream, lot)})


class LeastAndGreatest(unittest.TestCase):
    def look_at(self, web, stream):
        """The lots told, with all lots gone through; tells how many calm the stream."""
        lots = [lot for lot in all_lots(web) if plain_calms(web, stream, lot)]
        least, greatest, is_one = least_lot(web, stream), greatest_lot(web, stream), is_calm(web, stream)
        self.assertIs(is_one, bool(lots))
        if not lots:
            self.assertIsNone(least)
            self.assertIsNone(greatest)
        else:
            houses = range(len(web[1]))
            self.assertEqual(least, tuple(h for h in houses if all(h in lot for lot in lots)))
            self.assertEqual(greatest, tuple(h for h in houses if any(h in lot for lot in lots)))
            self.assertEqual([type(least), type(greatest)], [tuple, tuple])
            self.assertTrue(all(is_int(house) for house in least + greatest))
            self.assertIn(least, lots)
            self.assertIn(greatest, lots)
            for lot in (least, greatest):
                self.assertIs(calms(web, stream, lot), True)
        return len(lots)

    def test_told_ones(self):
        for function, right in [(least_lot, (0, 1)), (greatest_lot, (0, 1)), (is_calm, True)]:
            self.assertEqual(unchanged(self, function, LINE, (1, 1, 1)), right)
        for function, right in [(least_lot, ()), (greatest_lot, (0, 1, 2)), (is_calm, True)]:
            self.assertEqual(unchanged(self, function, RING, (2, 2, 2)), right)
        for function, right in [(least_lot, None), (greatest_lot, None), (is_calm, False)]:
            self.assertIs(unchanged(self, function, LINE, (0, 0, 0)), right)
        self.assertEqual((least_lot(FORK, (3, 3, 0, 3, 0)), greatest_lot(FORK, (3, 3, 0, 3, 0))), ((), (1,)))
        self.assertEqual((least_lot(MEET, (3, 0, 3, 0, 3)), greatest_lot(MEET, (3, 0, 3, 0, 3))), ((1, 2), (0, 1, 2)))

    def test_small_webs(self):
        many = {0: 0, 1: 0, 2: 0}
        for web in small_webs():
            for stream in all_streams(web):
                lots = self.look_at(web, stream)
                many[min(lots, 2)] += 1
                self.assertIs(is_calm(web, stream), plain_calm(web, stream))
        self.assertGreater(min(many.values()), 50, many)

    def test_what_two_of_them_have_in_common_and_together(self):
        for web in list(small_webs())[::3]:
            for stream in all_streams(web):
                lots = [lot for lot in all_lots(web) if calms(web, stream, lot)]
                for one, other in itertools.combinations(lots, 2):
                    self.assertTrue(calms(web, stream, tuple(sorted(set(one) & set(other)))))
                    self.assertTrue(calms(web, stream, tuple(sorted(set(one) | set(other)))))

    def test_great_webs(self):
        for web in great_webs():
            (first, least), (last, greatest) = calm(web), last_calm(web)
            self.assertEqual(least_lot(web, first), least)
            self.assertEqual(greatest_lot(web, last), greatest)
            for stream in (first, last, nothing(web)):
                self.look_at(web, stream)

    def test_long_lines(self):
        # What the first house hears the last one hears, however the roads are numbered.
        houses = range(HOUSES)
        for step in (1, 3, 5, 7):
            order = [h * step % HOUSES for h in houses]
            roads = [(None, order[0], GREAT)] + [(one, other, GREAT) for one, other in zip(order, order[1:])]
            web = web_of(HOUSES, roads + [(order[-1], None, GREAT - 1)])
            self.assertEqual(self.look_at(web, (GREAT - 1,) * 9), 1)
            self.assertEqual(least_lot(web, (GREAT - 1,) * 9), tuple(houses))
            self.assertEqual(self.look_at(web, (GREAT - 2,) * 9), 0)
            web = web_of(HOUSES, [(None, order[0], GREAT - 1)] + roads[1:] + [(order[-1], None, GREAT)])
            self.assertEqual(self.look_at(web, (GREAT - 1,) * 9), 1)
            self.assertEqual(greatest_lot(web, (GREAT - 1,) * 9), ())

    def test_more_houses_than_roads(self):
        web = web_of(HOUSES, [(None, HOUSES - 1, 1)])
        self.assertEqual(least_lot(web, (0,)), (HOUSES - 1,))
        self.assertEqual(greatest_lot(web, (0,)), tuple(range(HOUSES)))
        web = web_of(HOUSES, [(HOUSES - 1, None, 1)])
        self.assertEqual(least_lot(web, (0,)), ())
        self.assertEqual(greatest_lot(web, (0,)), tuple(range(HOUSES - 1)))

    def test_at_the_bounds(self):
        web = web_of(HOUSES, [(k % 8, (k + 1) % 8, GREAT) for k in range(ROADS)])
        # The roads of the first round are liked better: only where they are full the others may bear something.
        for bears in (0, 1, GREAT - 1, GREAT):
            for stream, right in [((GREAT,) * 8 + (bears,) * 8, True), ((GREAT - 1,) * 8 + (bears,) * 8, bears == 0)]:
                self.look_at(web, stream + (0,) * 4)
                self.assertIs(is_calm(web, stream + (0,) * 4), right)


if __name__ == "__main__":
    unittest.main()
