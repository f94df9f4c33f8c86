import itertools
import unittest

from tests.made import (RING, all_lots, all_streams, any_web, calm_ones, dice_of, great_webs, is_int, many_rows,
                        plain_calms, ringing_webs, small_webs, swaps, unchanged, web_of)
from unturned.bounds import GREAT, HOUSES, ROADS, SMALL
from unturned.errors import TooMany, WebError
from unturned.rooms import with_room
from unturned.small import bears_at, calm_streams, many_lots, streams_of

LINE = web_of(2, [(None, 0, 2), (0, 1, 3), (1, None, 1)])


def at_the_bound():
    """Webs whose rooms, each with 1 more, have just SMALL as their product."""
    yield web_of(1, [(None, 0, SMALL - 1)])
    yield web_of(2, [(0, 1, 63), (1, 0, 63)])
    yield web_of(1, [(None, 0, 1)] * 6 + [(0, None, 1)] * 6)
    yield web_of(1, [(None, 0, 7), (0, None, 7), (None, 0, 7), (0, None, 7)])
    # Roads without room don't count.
    yield web_of(HOUSES, [(h, (h + 1) % HOUSES, 1) for h in range(HOUSES)] + [(None, h, 0) for h in range(HOUSES)]
                 + [(0, 1, 1), (1, 0, 1), (2, 1, 1), (1, None, 1)])


def beyond_the_bound():
    """Webs whose product is SMALL + 1 or more."""
    yield web_of(1, [(None, 0, SMALL)])
    yield web_of(2, [(0, 1, 240), (1, 0, 16)])
    yield web_of(1, [(None, 0, 1)] * 13)
    yield web_of(1, [(None, 0, 1)] * 11 + [(0, None, 2)])
    yield web_of(1, [(None, 0, GREAT), (0, None, 0)])
    yield web_of(1, [(None, 0, 0), (0, None, GREAT)])
    yield web_of(HOUSES, [(k % 8, (k + 1) % 8, GREAT) for k in range(ROADS)])
    yield swaps(GREAT)


# Twelve doors of one house, by turns in and out: just SMALL choices.
TWELVE = (((None, 0, 1), (0, None, 1)) * 6, ((1, 3, 5, 7, 9, 11),), ((0, 2, 4, 6, 8, 10),))


class Streams(unittest.TestCase):
    def test_told_ones(self):
        self.assertEqual(unchanged(self, streams_of, LINE), ((0, 0, 0), (1, 1, 1)))
        self.assertEqual(unchanged(self, calm_streams, LINE), ((1, 1, 1),))
        self.assertEqual(unchanged(self, streams_of, RING), ((0, 0, 0), (1, 1, 1), (2, 2, 2)))
        self.assertEqual(unchanged(self, calm_streams, RING), ((0, 0, 0), (1, 1, 1), (2, 2, 2)))
        self.assertEqual(unchanged(self, bears_at, RING, 1), (0, 1, 2))
        self.assertEqual(unchanged(self, bears_at, LINE, 1), (1,))
        gate = web_of(1, [(None, 0, 1), (None, 0, 1), (0, None, 1)], {}, {0: (1, 0)})
        self.assertEqual(streams_of(gate), ((0, 0, 0), (0, 1, 1), (1, 0, 1)))
        self.assertEqual(calm_streams(gate), ((0, 1, 1),))
        self.assertEqual([bears_at(gate, road) for road in range(3)], [(0,), (1,), (1,)])
        web = swaps(1, 2)
        self.assertEqual([stream for stream in calm_streams(web) if sum(stream) == 2], [(0, 1, 0, 1), (1, 0, 1, 0)])

    def look_at(self, web):
        """Against a plain going through; tells how many calm ones there are."""
        streams, calm = streams_of(web), calm_streams(web)
        self.assertEqual([type(streams), type(calm)], [tuple, tuple])
        self.assertTrue(all(type(stream) is tuple and all(is_int(bears) for bears in stream) for stream in streams))
        self.assertEqual(list(streams), sorted(all_streams(web)))
        self.assertEqual(list(calm), sorted(calm_ones(web)))
        for road in range(len(web[0])):
            told = bears_at(web, road)
            self.assertIs(type(told), tuple)
            self.assertEqual(list(told), sorted({stream[road] for stream in calm}))
        return len(calm)

    def test_small_webs(self):
        several = 0
        for web in list(small_webs()) + list(ringing_webs()):
            several += self.look_at(web) > 1
        self.assertGreater(several, 20)

    def test_just_small(self):
        for web in at_the_bound():
            self.assertEqual(many_rows(web), SMALL)
            self.assertGreater(self.look_at(web), 0)

    def test_twelve_doors(self):
        self.assertEqual(many_rows(TWELVE), SMALL)
        streams = unchanged(self, streams_of, TWELVE)
        rows = itertools.product((0, 1), repeat=12)
        self.assertEqual(streams, tuple(row for row in rows if sum(row[::2]) == sum(row[1::2])))
        self.assertEqual(len(streams), 924)
        self.assertEqual((streams[0], streams[1], streams[-1]), ((0,) * 12, (0,) * 10 + (1, 1), (1,) * 12))
        self.assertEqual(unchanged(self, calm_streams, TWELVE), ((1,) * 12,))
        self.assertEqual([unchanged(self, bears_at, TWELVE, road) for road in range(12)], [(1,)] * 12)
        for wider in range(12):
            web = with_room(TWELVE, wider, 2)
            self.assert_refused(web)
            # Without it the least liked door of the other side has nothing to go with.
            narrower = with_room(TWELVE, wider, 0)
            least = 10 if wider % 2 == 1 else 11
            told = tuple(0 if road in (wider, least) else 1 for road in range(12))
            self.assertEqual((calm_streams(narrower), bears_at(narrower, least)), ((told,), (0,)))

    def test_great_rooms_at_the_bound(self):
        # What lacks at one house is never taken for what another one has too much.
        for first, second in itertools.product(range(3), repeat=2):
            roads = [(first, (first + 1) % 3, 1023), (second, (second + 2) % 3, 3)]
            self.look_at(web_of(3, roads))
        self.assertEqual(streams_of(web_of(1, [(None, 0, SMALL - 1)])), ((0,),))
        ring = web_of(2, [(0, 1, 63), (1, 0, 63)])
        self.assertEqual(streams_of(ring), tuple((k, k) for k in range(64)))
        self.assertEqual(bears_at(ring, 1), tuple(range(64)))

    def test_webs_by_chance(self):
        dice = dice_of(92)
        for turn in range(150):
            web = any_web(dice, dice.randint(1, 5), dice.randint(1, 9), 4, outside=dice.randint(1, 3))
            if many_rows(web) <= 1000:
                self.look_at(web)

    def test_too_many(self):
        for web in beyond_the_bound():
            self.assertGreater(many_rows(web), SMALL)
            self.assert_refused(web)
        self.assertEqual(many_rows(web_of(2, [(0, 1, 240), (1, 0, 16)])), SMALL + 1)
        for web in great_webs():
            self.assert_refused(web)

    def assert_refused(self, web):
        for function, handed in [(streams_of, (web,)), (calm_streams, (web,)), (bears_at, (web, 0))]:
            with self.assertRaises(TooMany) as refused:
                function(*handed)
            self.assertEqual(refused.exception.bound, SMALL)
            self.assertIsInstance(refused.exception, WebError)


class ManyLots(unittest.TestCase):
    def test_told_ones(self):
        self.assertEqual(unchanged(self, many_lots, LINE, (1, 1, 1)), 1)
        self.assertEqual(unchanged(self, many_lots, LINE, (0, 0, 0)), 0)
        self.assertEqual(many_lots(RING, (0, 0, 0)), 2)
        self.assertEqual(many_lots(RING, (2, 2, 2)), 4)

    def test_small_webs(self):
        seen = set()
        for web in list(small_webs()) + list(ringing_webs()):
            for stream in all_streams(web):
                told = many_lots(web, stream)
                self.assertTrue(is_int(told))
                self.assertEqual(told, sum(plain_calms(web, stream, lot) for lot in all_lots(web)))
                seen.add(told)
        self.assertGreater(len(seen), 5)

    def test_of_great_webs_too(self):
        web = web_of(HOUSES, [(k % 8, (k + 1) % 8, GREAT) for k in range(8)])
        self.assertEqual(many_lots(web, (0,) * 8), 2)
        self.assertEqual(many_lots(web, (GREAT - 1,) * 8), 2)
        self.assertEqual(many_lots(web, (GREAT,) * 8), 256)
        dice = dice_of(91)
        for turn in range(20):
            web = any_web(dice, HOUSES, ROADS, GREAT, outside=0, least=GREAT - 5)
            stream = (0,) * ROADS
            self.assertEqual(many_lots(web, stream), sum(plain_calms(web, stream, lot) for lot in all_lots(web)))


if __name__ == "__main__":
    unittest.main()
