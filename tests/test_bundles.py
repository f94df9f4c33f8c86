import itertools
import unittest

from tests.made import (AGAINST, RING, all_streams, any_web, bent, dice_of, great_webs, is_int, odd_things, ringing_webs,
                        small_webs, swaps, unchanged, web_of)
from unturned.bounds import GREAT, HOUSES, ROADS
from unturned.bundles import bundle, bundle_holds
from unturned.greatest import greatest
from unturned.leading import calm, last_calm
from unturned.streams import nothing, streamfault

LINE = web_of(2, [(None, 0, 2), (0, 1, 3), (1, None, 1)])
# In to house 0; by 1 to house 1 and by 2 to house 2; out of both by 3 and 4.
FORK = web_of(3, [(None, 0, 5), (0, 1, 3), (0, 2, 3), (1, None, 3), (2, None, 3)])
# Two ways apart from each other, each through a house of its own.
APART = web_of(2, [(None, 0, 2), (0, None, 2), (None, 1, 2), (1, None, 2)])
# In by 0, out by 3, and a ring of 1 and 2 at house 0, which a way by house 1 would also pass.
LOOP = web_of(2, [(None, 0, 3), (0, 1, 3), (1, 0, 3), (0, None, 3)])
# Two rings that have house 0 in common.
EIGHT = web_of(3, [(0, 1, 3), (1, 0, 3), (0, 2, 3), (2, 0, 3)])


def plain_rows(web):
    """All ways and all rings, by [7]."""
    roads = web[0]
    rows = set()
    for many in range(2, len(web[1]) + 2):
        for row in itertools.permutations(range(len(roads)), many):
            begins, ends = [roads[k][0] for k in row], [roads[k][1] for k in row]
            if begins[1:] != ends[:-1] or None in begins[1:]:
                continue
            houses = begins[1:] if begins[0] is None and ends[-1] is None else begins
            if len(set(houses)) < len(houses):
                continue
            if begins[0] is None and ends[-1] is None:
                rows.add(row)
            elif begins[0] is not None and begins[0] == ends[-1] and row[0] == min(row):
                rows.add(row)
    return rows


def plain_holds(web, stream, thing, rows=None):
    """bundle_holds by [7], whatever it is, written another way."""
    rows = plain_rows(web) if rows is None else rows
    if type(thing) is not tuple or len(thing) > len(web[0]):
        return False
    bears = [0] * len(web[0])
    seen = []
    for row in thing:
        if type(row) is not tuple or len(row) != 2 or type(row[0]) is not tuple:
            return False
        if not all(is_int(k) for k in row[0]) or row[0] not in rows or row[0] in seen:
            return False
        if not is_int(row[1]) or row[1] < 1:
            return False
        seen.append(row[0])
        for road in row[0]:
            bears[road] += row[1]
    return tuple(bears) == stream


class Bundle(unittest.TestCase):
    def test_told_ones(self):
        self.assertEqual(unchanged(self, bundle, LINE, (1, 1, 1)), (((0, 1, 2), 1),))
        self.assertEqual(sorted(unchanged(self, bundle, FORK, (5, 2, 3, 2, 3))), [((0, 1, 3), 2), ((0, 2, 4), 3)])
        self.assertEqual(unchanged(self, bundle, RING, (2, 2, 2)), (((0, 1, 2), 2),))
        self.assertEqual(sorted(bundle(APART, (2, 2, 1, 1))), [((0, 1), 2), ((2, 3), 1)])
        self.assertEqual(sorted(bundle(LOOP, (2, 3, 3, 2))), [((0, 3), 2), ((1, 2), 3)])
        self.assertEqual(sorted(bundle(EIGHT, (1, 1, 2, 2))), [((0, 1), 1), ((2, 3), 2)])
        # Told from its least road on, wherever it was come to.
        back = web_of(3, [(2, 0, 4), (1, 2, 4), (0, 1, 4)])
        self.assertEqual(bundle(back, (3, 3, 3)), (((0, 2, 1), 3),))

    def test_of_nothing(self):
        for web in [*small_webs(), *great_webs()]:
            self.assertEqual(bundle(web, nothing(web)), ())
            self.assertIs(bundle_holds(web, nothing(web), ()), True)

    def look_at(self, web, stream, rows=None):
        told = bundle(web, stream)
        self.assertIs(type(told), tuple)
        self.assertLessEqual(len(told), len(web[0]))
        self.assertEqual(len({roads for roads, many in told}), len(told))
        self.assertIs(plain_holds(web, stream, told, rows), True, (web, stream, told))
        self.assertIs(bundle_holds(web, stream, told), True)
        self.assertEqual(bundle(web, stream), told)
        return told

    def test_all_streams_of_small_webs(self):
        seen = set()
        for web in [*small_webs(), *ringing_webs()]:
            rows = plain_rows(web)
            for stream in all_streams(web):
                for roads, many in self.look_at(web, stream, rows):
                    seen.add((web[0][roads[0]][0] is None, len(roads), many))
        self.assertLessEqual({(True, 2, 1), (True, 3, 1), (True, 2, 2), (False, 2, 1), (False, 2, 2), (False, 3, 1)}, seen)

    def test_great_webs(self):
        def on_it(web, told):
            """What ways and rings are, looked at one by one: there are too many to go through."""
            for roads, many in told:
                begins, ends = [web[0][k][0] for k in roads], [web[0][k][1] for k in roads]
                self.assertEqual(begins[1:], ends[:-1])
                self.assertNotIn(None, begins[1:])
                self.assertEqual(begins[0], ends[-1])
                self.assertEqual(len(set(begins)), len(begins))
                self.assertTrue(begins[0] is None or roads[0] == min(roads))
                self.assertTrue(is_int(many) and many > 0)
            return tuple(sum(many for roads, many in told if k in roads) for k in range(len(web[0])))
        longest = 0
        for web in great_webs():
            for stream in (calm(web)[0], last_calm(web)[0], greatest(web), wild_stream(web)):
                told = bundle(web, stream)
                self.assertEqual(on_it(web, told), stream)
                self.assertLessEqual(len(told), len(web[0]))
                self.assertEqual(len({roads for roads, many in told}), len(told))
                self.assertIs(bundle_holds(web, stream, told), True)
                longest = max(longest, len(told))
        self.assertGreater(longest, 8)


def wild_stream(web):
    """A stream with much on every road that it can be on: what several rings and ways bear together."""
    roads = web[0]
    left = [road[2] for road in roads]
    bears = [0] * len(roads)
    dice = dice_of(len(roads))
    for turn in range(60):
        first = dice.randrange(len(roads))
        gone = [first]
        while roads[gone[-1]][1] is not None and roads[gone[-1]][1] != roads[first][0] and len(gone) < 12:
            on = [k for k, road in enumerate(roads) if road[0] == roads[gone[-1]][1] and k not in gone]
            if not on:
                break
            gone.append(dice.choice(on))
        if roads[gone[-1]][1] == roads[first][0] and len(gone) > 1:
            many = dice.randint(0, min(left[k] for k in gone))
            for k in gone:
                left[k] -= many
                bears[k] += many
    return tuple(bears)


class BundleHolds(unittest.TestCase):
    def look(self, web, stream, thing, right):
        self.assertIs(unchanged(self, bundle_holds, web, stream, thing), right, (stream, thing))
        self.assertIs(plain_holds(web, stream, thing), right, (stream, thing))

    def test_wild_streams_are_streams(self):
        for web in great_webs():
            self.assertIsNone(streamfault(web, wild_stream(web)))

    def test_rows_in_another_order(self):
        for order in itertools.permutations([((0, 1, 3), 2), ((0, 2, 4), 3)]):
            self.look(FORK, (5, 2, 3, 2, 3), order, True)
        for order in itertools.permutations([((0, 3), 2), ((1, 2), 3)]):
            self.look(LOOP, (2, 3, 3, 2), order, True)

    def test_rows_twice_put_together_or_parted(self):
        stream = (5, 2, 3, 2, 3)
        one, other = ((0, 1, 3), 2), ((0, 2, 4), 3)
        for thing in [(one, other, one), (one, one, other), (one,), (other,), (), (one, one),
                      (((0, 1, 3), 1), ((0, 1, 3), 1), other), (one, ((0, 2, 4), 1), ((0, 2, 4), 2)),
                      (((0, 1, 3, 0, 2, 4), 2), ((0, 2, 4), 1)), ((one, other),), (one + other,), (one, [other]),
                      (((0, 1, 2, 3, 4), 2),)]:
            self.look(FORK, stream, thing, False)
        # What has gone out doesn't come in again on the same way, be the houses unlike or not.
        self.look(APART, (1, 1, 1, 1), (((0, 1), 1), ((2, 3), 1)), True)
        for thing in [(((0, 1, 2, 3), 1),), (((2, 3, 0, 1), 1),), (((0, 1, 2, 3), 1), ((0, 1), 1)),
                      (((1, 2), 1), ((0, 3), 1)), (((1, 0), 1), ((2, 3), 1)), (((1, 0), 1), ((3, 2), 1)),
                      (((1, 2, 3, 0), 1),), (((0, 3, 2, 1), 1),)]:
            self.look(APART, (1, 1, 1, 1), thing, False)
        # Two rings with a house in common are no ring.
        self.look(EIGHT, (1, 1, 1, 1), (((0, 1), 1), ((2, 3), 1)), True)
        self.look(EIGHT, (1, 1, 1, 1), (((0, 1, 2, 3), 1),), False)
        self.look(EIGHT, (1, 1, 1, 1), (((0, 1, 2, 3), 1), ((0, 1), 1)), False)

    def test_pieces_are_no_ways_and_no_rings(self):
        for rows in [(((0, 1), 1), ((2,), 1)), (((0,), 1), ((1, 2), 1)), (((0,), 1), ((1,), 1), ((2,), 1))]:
            self.look(LINE, (1, 1, 1), rows, False)
            self.look(RING, (1, 1, 1), rows, False)
        self.look(RING, (1, 1, 1), (((0, 1), 1), ((2, 0), 1)), False)

    def test_rows_of_none_and_of_less_than_none(self):
        self.look(LOOP, (2, 0, 0, 2), (((0, 3), 2),), True)
        self.look(LOOP, (2, 0, 0, 2), (((0, 3), 2), ((1, 2), 0)), False)
        gate = web_of(1, [(None, 0, 2), (None, 0, 2), (0, None, 2), (0, None, 2)])
        self.look(gate, (1, 1, 1, 1), (((0, 2), 1), ((1, 3), 1)), True)
        # Together they would bear what the stream bears.
        self.look(gate, (1, 1, 1, 1), (((0, 2), 2), ((0, 3), -1), ((1, 2), -1), ((1, 3), 2)), False)
        self.look(gate, (1, 1, 1, 1), (((0, 2), 1), ((0, 3), 0), ((1, 2), 0), ((1, 3), 1)), False)

    def test_a_house_twice(self):
        self.look(LOOP, (1, 1, 1, 1), (((0, 3), 1), ((1, 2), 1)), True)
        self.look(LOOP, (1, 1, 1, 1), (((0, 1, 2, 3), 1),), False)
        self.look(LOOP, (2, 2, 2, 2), (((0, 1, 2, 3), 1), ((0, 3), 1), ((1, 2), 1)), False)

    def test_rings_told_from_their_least_road_on(self):
        for roads, right in [((0, 1, 2), True), ((1, 2, 0), False), ((2, 0, 1), False), ((0, 2, 1), False), ((2, 1, 0), False),
                             ((0, 1, 2, 0), False), ((0, 1, 2, 0, 1, 2), False), ((0, 1), False), ((1, 2), False)]:
            self.look(RING, (2, 2, 2), ((roads, 2),), right)
        # A way begins where it begins.
        web = web_of(2, [(1, None, 1), (0, 1, 1), (None, 0, 1)])
        self.look(web, (1, 1, 1), (((2, 1, 0), 1),), True)
        self.look(web, (1, 1, 1), (((0, 2, 1), 1),), False)
        self.look(web, (1, 1, 1), (((0, 1, 2), 1),), False)

    def test_too_much_and_too_little(self):
        for many in (1, 3, 4, 10 ** 29, 0, -2):
            self.look(RING, (2, 2, 2), (((0, 1, 2), many),), False)
        for stream, right in [((1, 1, 1), True), ((0, 0, 0), False)]:
            self.look(LINE, stream, (((0, 1, 2), 1),), right)
        self.look(LOOP, (0, 3, 3, 0), (((1, 2), 3),), True)
        self.look(LOOP, (0, 2, 2, 0), (((1, 2), 3),), False)
        self.look(LOOP, (1, 3, 3, 1), (((1, 2), 3),), False)
        # More than there is room for, and back again by less than nothing.
        self.look(LOOP, (2, 0, 0, 2), (((0, 3), 2), ((1, 2), 1), ((1, 2), -1)), False)
        self.look(LOOP, (2, 1, 1, 2), (((0, 3), 2), ((1, 2), 2), ((1, 2), -1)), False)

    def test_more_rows_than_roads(self):
        # Houses two by two: each of five in-doors could go on to each of five out-doors.
        roads = [(None, 0, 20)] * 5 + [(0, None, 20)] * 5
        web = web_of(1, roads)
        rows = tuple(((a, b), 1) for a in range(5) for b in range(5, 10))
        stream = (5,) * 10
        self.assertIs(bundle_holds(web, stream, rows), False)
        self.assertLessEqual(len(bundle(web, stream)), 10)
        ten = tuple(((a, 5 + (a + step) % 5), many) for a in range(5) for step, many in ((0, 2), (1, 3)))
        self.assertEqual(len(ten), 10)
        self.assertIs(bundle_holds(web, stream, ten), True)
        eleven = (((0, 5), 1), ((0, 7), 1)) + ten[1:]
        self.assertIs(bundle_holds(web, stream, eleven), False)
        more = (((0, 5), 1), ((0, 6), 3), ((0, 7), 1), ((1, 6), 2), ((1, 7), 2), ((1, 5), 1)) + ten[4:]
        self.assertEqual(tuple(sum(m for r, m in more if k in r) for k in range(10)), (5, 5, 5, 5, 5, 5, 5, 5, 5, 5))
        self.assertEqual(len(more), 12)
        self.assertIs(bundle_holds(web, stream, more), False)

    def test_odd_rows(self):
        for row in [((0, 1, 2), True), ((0, 1, 2), False), ((0, 1, 2), None), ((0, 1, 2), "1"), ((0, 1, 2), [1]),
                    ((0, 1, 2), (1,)), ([0, 1, 2], 1), [(0, 1, 2), 1], ((0, True, 2), 1), ((False, 1, 2), 1),
                    ((False, True, 2), 1), ((0, 1, 2), 1, 1), ((0, 1, 2),), (1, (0, 1, 2)), ((), 1), ((0, 1, 3), 1),
                    ((-3, 1, 2), 1), ((0, 1, -1), 1), ("012", 1), (("0", "1", "2"), 1), ((0, 1, 10 ** 29), 1),
                    ((0, None, 2), 1), ((None, 0, 1, 2, None), 1), (((0, 1, 2),), 1), ({}, 1), (0, 1), ((0, 1, 2), {}),
                    ((0, [1], 2), 1), ((0, (1,), 2), 1)]:
            self.look(LINE, (1, 1, 1), (row,), False)
        self.look(LINE, (1, 1, 1), [((0, 1, 2), 1)], False)
        self.look(LINE, (1, 1, 1), ((0, 1, 2), 1), False)
        self.look(LINE, (1, 1, 1), (((0, 1, 2), 1), ()), False)
        self.look(LINE, (1, 1, 1), (((0, 1, 2), 1), None), False)

    def test_whatever_it_is(self):
        for web, stream in [(LINE, (1, 1, 1)), (LINE, (0, 0, 0)), (RING, (2, 2, 2)), (LOOP, (2, 3, 3, 2)),
                            (FORK, (5, 2, 3, 2, 3)), (AGAINST, (3, 9, 6, 3)), (swaps(2, 2), (1, 1, 2, 0))]:
            rows = plain_rows(web)
            for thing in odd_things() + list(bent(bundle(web, stream))):
                right = plain_holds(web, stream, thing, rows)
                self.assertIs(unchanged(self, bundle_holds, web, stream, thing), right, thing)

    def test_all_rows_of_small_webs(self):
        # Each choice of up to three ways and rings, with few on each: just those are let by that bear the stream.
        dice = dice_of(101)
        let_by = 0
        for turn in range(60):
            web = any_web(dice, dice.randint(1, 3), dice.randint(3, 5), 2, outside=1, least=1)
            rows = sorted(plain_rows(web))
            things = [tuple(zip(chosen, many)) for few in range(4) for chosen in itertools.combinations(rows, few)
                      for many in itertools.product((1, 2), repeat=few)]
            for stream in list(all_streams(web))[:6]:
                for thing in things:
                    right = plain_holds(web, stream, thing, set(rows))
                    self.assertIs(bundle_holds(web, stream, thing), right)
                    let_by += right
        self.assertGreater(let_by, 80)

    def test_at_the_bounds(self):
        web = web_of(HOUSES, [(k % 8, (k + 1) % 8, GREAT) for k in range(8)])
        self.look_ring(web, (GREAT,) * 8)
        web = web_of(1, [(None, 0, GREAT)] * 10 + [(0, None, GREAT)] * 10)
        told = bundle(web, (GREAT,) * ROADS)
        self.assertIs(bundle_holds(web, (GREAT,) * ROADS, told), True)
        self.assertEqual(sum(many for roads, many in told), 10 * GREAT)

    def look_ring(self, web, stream):
        self.assertEqual(bundle(web, stream), ((tuple(range(8)), GREAT),))
        self.assertIs(bundle_holds(web, stream, ((tuple(range(8)), GREAT),)), True)
        self.assertIs(bundle_holds(web, stream, ((tuple(range(8)), GREAT - 1),)), False)


if __name__ == "__main__":
    unittest.main()
