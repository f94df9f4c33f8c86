import unittest

from tests.made import (AGAINST, RING, all_lots, all_pairs, all_streams, any_web, bent, calm_ones, dice_of, great_webs,
                        is_int, odd_things, plain_stream, ringing_webs, small_webs, unchanged, web_of)
from unturned.bounds import GREAT, HOUSES, ROADS
from unturned.greatest import greatest, lost, narrow_holds, narrow_room, narrowest
from unturned.leading import calm, last_calm

LINE = web_of(2, [(None, 0, 2), (0, 1, 3), (1, None, 1)])
# House 0 likes the road to house 1 better, from which only one unit goes out; house 1 takes by 1 more gladly than by 3.
SPOILT = web_of(3, [(None, 0, 1), (0, 1, 1), (0, 2, 1), (None, 1, 1), (1, None, 1), (2, None, 1)])
# More goes through only where the middle road, taken by the shortest way, is left again.
CROSS = web_of(4, [(None, 0, 1), (None, 3, 1), (0, 1, 1), (1, None, 1), (0, 2, 1), (3, 1, 1), (2, None, 1)])


def value(web, stream):
    return sum(bears for bears, road in zip(stream, web[0]) if road[0] is None)


def plain_narrows(web, lot):
    """The narrows by [25], written another way."""
    near = {None} | set(lot)
    far = {None} | set(range(len(web[1]))) - set(lot)
    return [k for k, (begin, end, room) in enumerate(web[0]) if begin in near and end in far]


def plain_room(web, lot):
    return sum(web[0][k][2] for k in plain_narrows(web, lot))


def plain_holds(web, stream, thing):
    """narrow_holds by [25], whatever it is, written another way."""
    if type(thing) is not tuple or not all(is_int(house) for house in thing) or thing not in set(all_lots(web)):
        return False
    if [k for k in plain_narrows(web, thing) if stream[k] < web[0][k][2]]:
        return False
    rest = set(range(len(web[1]))) - set(thing)
    return sum(stream[k] for k, (begin, end, room) in enumerate(web[0]) if begin in rest and end in thing) == 0


def zigzag():
    """Ways by which a search that takes any of them would go once for each unit of room."""
    return web_of(4, [(None, 0, GREAT), (0, 1, GREAT), (0, 2, GREAT), (1, 2, 1), (1, 3, GREAT), (2, 3, GREAT),
                      (2, 1, 1), (3, None, GREAT), (3, None, GREAT), (None, 0, GREAT)],
                  {0: (2, 1), 1: (3, 4), 2: (6, 5)})


def webs_of_bounds():
    dice = dice_of(81)
    for turn in range(60):
        yield any_web(dice, HOUSES, ROADS, GREAT, outside=dice.randint(2, 5), least=dice.choice((0, GREAT - 5)))
    yield zigzag()
    # Through all houses and back again.
    for step in (1, 3):
        row = [h * step % HOUSES for h in range(HOUSES)]
        yield web_of(HOUSES, [(None, row[0], GREAT), (row[-1], None, GREAT - 1)]
                     + [(a, b, GREAT - 2) for a, b in zip(row, row[1:])] + [(b, a, GREAT) for a, b in zip(row, row[1:])])


class Greatest(unittest.TestCase):
    def look_at(self, web):
        """The told lot's narrow_room is the told stream's worth, so both are the greatest and the least."""
        stream, lot = greatest(web), narrowest(web)
        self.assertEqual([type(stream), type(lot)], [tuple, tuple])
        self.assertTrue(all(is_int(number) for number in stream + lot))
        self.assertEqual(len(stream), len(web[0]))
        self.assertTrue(plain_stream(web, stream))
        self.assertIn(lot, set(all_lots(web)))
        self.assertEqual(narrow_room(web, lot), value(web, stream))
        self.assertEqual(plain_room(web, lot), value(web, stream))
        self.assertIs(narrow_holds(web, stream, lot), True)
        self.assertEqual(lost(web), value(web, stream) - value(web, calm(web)[0]))
        self.assertTrue(is_int(lost(web)))
        self.assertGreaterEqual(lost(web), 0)
        return value(web, stream)

    def test_told_ones(self):
        self.assertEqual(unchanged(self, greatest, LINE), (1, 1, 1))
        self.assertEqual(unchanged(self, narrowest, LINE), (0, 1))
        self.assertEqual(unchanged(self, lost, LINE), 0)
        self.assertEqual(unchanged(self, greatest, SPOILT), (1, 0, 1, 1, 1, 1))
        self.assertEqual(self.look_at(SPOILT), 2)
        self.assertEqual(self.look_at(CROSS), 2)
        self.assertEqual(self.look_at(RING), 0)
        self.assertEqual(self.look_at(AGAINST), 3)
        self.assertEqual(self.look_at(zigzag()), 2 * GREAT)
        self.assertEqual(self.look_at(web_of(1, [(None, 0, GREAT)] * 10 + [(0, None, GREAT)] * 10)), 10 * GREAT)
        self.assertEqual(self.look_at(web_of(2, [(None, 0, 5), (1, None, 5)])), 0)
        self.assertEqual(self.look_at(web_of(2, [(None, 0, 5), (1, 0, 3), (1, None, 5)])), 0)
        self.assertEqual(self.look_at(web_of(1, [(None, 0, 0), (0, None, 0)])), 0)

    def test_narrow_room(self):
        for lot, room in [((), 2), ((0,), 3), ((1,), 3), ((0, 1), 1)]:
            self.assertEqual(unchanged(self, narrow_room, LINE, lot), room)
        self.assertEqual(narrow_room(RING, ()), 0)
        self.assertEqual(narrow_room(RING, (0, 1, 2)), 0)
        self.assertEqual(narrow_room(RING, (1,)), 3)
        for web in [*small_webs(), *great_webs()]:
            for lot in all_lots(web):
                self.assertEqual(narrow_room(web, lot), plain_room(web, lot))

    def test_small_webs(self):
        more = 0
        for web in list(small_webs()) + list(ringing_webs()):
            most = self.look_at(web)
            streams = list(all_streams(web))
            self.assertEqual(most, max(value(web, stream) for stream in streams))
            self.assertEqual(most, min(plain_room(web, lot) for lot in all_lots(web)))
            more += most > 0
            for stream in calm_ones(web):
                self.assertEqual(lost(web), most - value(web, stream))
        self.assertGreater(more, 30)

    def test_lost(self):
        # The unit that comes by 0 goes to house 1 and takes the place there of the one that comes by 3.
        self.assertEqual(unchanged(self, lost, SPOILT), 1)
        great = (tuple((begin, end, room * GREAT) for begin, end, room in SPOILT[0]),) + SPOILT[1:]
        self.assertEqual(lost(great), GREAT)
        self.assertEqual(lost(web_of(3, SPOILT[0], {0: (2, 1)})), 0)
        dice = dice_of(82)
        seen = set()
        for turn in range(60):
            web = any_web(dice, 4, 14, 9, outside=3)
            self.look_at(web)
            seen.add(lost(web))
        self.assertGreater(len(seen), 3)

    def test_great_webs(self):
        for web in [*great_webs(), *webs_of_bounds()]:
            self.look_at(web)

    def test_asked_twice(self):
        for web in list(small_webs())[::9] + list(webs_of_bounds())[::9]:
            for function in (greatest, narrowest, lost):
                unchanged(self, function, web)


class NarrowHolds(unittest.TestCase):
    def look(self, web, stream, thing, right):
        self.assertIs(unchanged(self, narrow_holds, web, stream, thing), right, (stream, thing))
        self.assertIs(plain_holds(web, stream, thing), right, (stream, thing))

    def test_told_ones(self):
        for lot, right in [((0, 1), True), ((), False), ((0,), False), ((1,), False)]:
            self.look(LINE, (1, 1, 1), lot, right)
            self.look(LINE, (0, 0, 0), lot, False)
        # What goes round into the lot from houses that aren't of it is not to be; from outside it may come.
        web = web_of(2, [(None, 0, 3), (0, 1, 2), (1, 0, 2), (1, None, 2)])
        self.look(web, (2, 2, 0, 2), (0,), True)
        self.look(web, (1, 2, 1, 1), (0,), False)
        self.look(web, (2, 2, 0, 2), (0, 1), True)
        self.look(web, (2, 2, 0, 2), (), False)

    def test_no_lots(self):
        for thing in [[0, 1], (1, 0), (0, 0, 1), (0, 1, 1), (0, True), (False, 1), (0, 1, 2), (-1, 0, 1), "01", None, True,
                      0, {}, {"0": 1}, ("0", "1"), ((0, 1),), (0, [1]), (0, None), (10 ** 29,)]:
            self.look(LINE, (1, 1, 1), thing, False)
        for thing in [[], None, False, (False, 1, 2), "", {}, [0, 1, 2], (3,), (0, 2, 1)]:
            self.look(RING, (0, 0, 0), thing, False)

    def test_whatever_it_is(self):
        for web, stream, lot in [(LINE, (1, 1, 1), (0, 1)), (RING, (0, 0, 0), (0, 1, 2)), (RING, (2, 2, 2), ())]:
            for thing in odd_things() + list(bent(lot)):
                self.look(web, stream, thing, plain_holds(web, stream, thing))

    def test_small_webs(self):
        seen = {True: 0, False: 0}
        for web in list(small_webs()) + list(ringing_webs())[::2]:
            most = max(value(web, stream) for stream in all_streams(web))
            for stream in all_streams(web):
                for lot in all_lots(web):
                    told = narrow_holds(web, stream, lot)
                    self.assertIs(told, plain_holds(web, stream, lot))
                    seen[told] += 1
                    if told:
                        self.assertEqual(value(web, stream), most)
        self.assertGreater(min(seen.values()), 200)

    def test_narrows_are_full_by_each_lot_that_calms(self):
        for web in list(small_webs()) + list(ringing_webs()):
            for stream, lot in all_pairs(web):
                self.assertTrue(all(stream[k] == web[0][k][2] for k in plain_narrows(web, lot)))
        for web in great_webs():
            for stream, lot in (calm(web), last_calm(web)):
                self.assertTrue(all(stream[k] == web[0][k][2] for k in plain_narrows(web, lot)))


if __name__ == "__main__":
    unittest.main()
