import unittest

from tests.made import (RING, all_lots, all_streams, great_webs, plain_calm, plain_calms, plain_loose, plain_sharing,
                        plain_stream, row_of, small_webs, unchanged, web_of)
from unturned.bounds import FAR, GREAT, HOUSES, ROADS, SEATS, TIES
from unturned.fairs import is_fair
from unturned.leading import calm, fair_of, last_calm, sharing_of, stream_of
from unturned.settling import settle, settle_back

# In to house 0 by 0, to house 1 by 4; between them by 1, 2 and 5; out of house 1 by 3.
ORDINARY = web_of(2, [(None, 0, 5), (0, 1, 4), (0, 1, 3), (1, None, 2), (None, 1, 1), (1, 0, 6)],
                  {0: (2, 1), 1: (5, 3)}, {0: (5, 0), 1: (4, 2, 1)})


def plain_fair_of(web):
    """fair_of by [15], written another way."""
    roads, gives, takes = web
    houses = len(gives)
    big = 1 + sum(road[2] for road in roads)
    coming = [k for k, road in enumerate(roads) if road[0] is None]
    going = [k for k, road in enumerate(roads) if road[1] is None]
    seat_in = {k: houses + at for at, k in enumerate(coming)}
    seat_out = {k: houses + at for at, k in enumerate(going)}
    ties = [(seat_in.get(k, begin), seat_out.get(k, end), room) for k, (begin, end, room) in enumerate(roads)]
    givers, takers = [], []
    for h in range(houses):
        lying = len(ties)
        ties += [(h, h, big), (h, h, big)]
        givers.append((big, (lying,) + gives[h] + (lying + 1,)))
        takers.append((big, (lying + 1,) + takes[h] + (lying,)))
    givers += [(roads[k][2], (k,)) for k in coming]
    takers += [(roads[k][2], (k,)) for k in going]
    return (tuple(ties), tuple(givers), tuple(takers))


class FairOf(unittest.TestCase):
    def test_told_one(self):
        big = 22
        fair = unchanged(self, fair_of, ORDINARY)
        self.assertEqual(fair[0], ((2, 0, 5), (0, 1, 4), (0, 1, 3), (1, 2, 2), (3, 1, 1), (1, 0, 6),
                                   (0, 0, big), (0, 0, big), (1, 1, big), (1, 1, big)))
        self.assertEqual(fair[1], ((big, (6, 2, 1, 7)), (big, (8, 5, 3, 9)), (5, (0,)), (1, (4,))))
        self.assertEqual(fair[2], ((big, (7, 5, 0, 6)), (big, (9, 4, 2, 1, 8)), (2, (3,))))

    def test_without_doors_and_rooms(self):
        self.assertEqual(fair_of(web_of(2, [(0, 1, 0)])), (
            ((0, 1, 0), (0, 0, 1), (0, 0, 1), (1, 1, 1), (1, 1, 1)),
            ((1, (1, 0, 2)), (1, (3, 4))), ((1, (2, 1)), (1, (4, 0, 3)))))

    def test_against_a_plain_look(self):
        for web in [*small_webs(), *great_webs()]:
            fair = fair_of(web)
            self.assertEqual(fair, plain_fair_of(web))
            self.assertIs(is_fair(fair), True)

    def test_at_the_bounds(self):
        web = web_of(HOUSES, [(None, k % 8, GREAT) for k in range(ROADS)])
        ties, givers, takers = fair_of(web)
        self.assertEqual((len(ties), len(givers), len(takers)), (TIES, SEATS, HOUSES))
        self.assertEqual(givers[0][0], 20 * GREAT + 1)
        self.assertLessEqual(givers[0][0], FAR)
        self.assertIs(is_fair((ties, givers, takers)), True)


class SharingOf(unittest.TestCase):
    def test_told_ones(self):
        web = web_of(2, [(None, 0, 2), (0, 1, 3), (1, None, 1)])
        # One unit goes through; the in-door has room left, so its house is of the lot, and the next one too.
        self.assertEqual(unchanged(self, sharing_of, web, (1, 1, 1), (0, 1)), (1, 1, 1, 0, 6, 0, 6))
        self.assertEqual(unchanged(self, stream_of, web, (1, 1, 1, 0, 6, 0, 6)), ((1, 1, 1), (0, 1)))
        web = web_of(2, [(None, 0, 1), (0, 1, 3), (1, None, 2)])
        self.assertEqual(sharing_of(web, (1, 1, 1), ()), (1, 1, 1, 6, 0, 6, 0))
        self.assertEqual(stream_of(web, (1, 1, 1, 6, 0, 6, 0)), ((1, 1, 1), ()))
        # A settled sharing may part what lacks on both ties of a house: it is of the lot then.
        self.assertEqual(stream_of(web_of(2, [(0, 1, 5)]), (0, 2, 4, 0, 6)), ((0,), (0, 1)))

    def test_the_one_after_the_other(self):
        for web in small_webs():
            fair = fair_of(web)
            for stream in all_streams(web):
                for lot in all_lots(web):
                    if plain_calms(web, stream, lot):
                        sharing = sharing_of(web, stream, lot)
                        self.assertIs(type(sharing), tuple)
                        self.assertEqual(sharing[:len(stream)], stream)
                        self.assertTrue(plain_sharing(fair, sharing))
                        self.assertEqual(plain_loose(fair, sharing), ())
                        self.assertEqual(stream_of(web, sharing), (stream, lot))

    def test_great_ones(self):
        for web in great_webs():
            fair = fair_of(web)
            for settled in (settle(fair), settle_back(fair)):
                stream, lot = stream_of(web, settled)
                self.assertTrue(plain_stream(web, stream))
                self.assertTrue(plain_calms(web, stream, lot))
                sharing = sharing_of(web, stream, lot)
                self.assertTrue(plain_sharing(fair, sharing))
                self.assertEqual(plain_loose(fair, sharing), ())
                self.assertEqual(stream_of(web, sharing), (stream, lot))


class Calm(unittest.TestCase):
    def test_told_ones(self):
        web = web_of(2, [(None, 0, 2), (0, 1, 3), (1, None, 1)])
        self.assertEqual(unchanged(self, calm, web), ((1, 1, 1), (0, 1)))
        self.assertEqual(unchanged(self, last_calm, web), ((1, 1, 1), (0, 1)))
        web = web_of(2, [(None, 0, 1), (0, 1, 3), (1, None, 2)])
        self.assertEqual(calm(web), ((1, 1, 1), ()))
        self.assertEqual(last_calm(web), ((1, 1, 1), ()))
        # Without doors nothing need stream: the ring stands still, and any lot of none or all of it calms it.
        self.assertEqual(calm(RING)[1], ())
        self.assertEqual(last_calm(RING)[1], (0, 1, 2))
        self.assertEqual(calm(web_of(1, [(None, 0, 2)])), ((0,), (0,)))
        self.assertEqual(calm(web_of(1, [(0, None, 2)])), ((0,), ()))

    def look_at(self, web):
        """Both tell a stream that the told lot calms, the least and the greatest lot; alike at the doors."""
        first, last = calm(web), last_calm(web)
        for stream, lot in (first, last):
            self.assertEqual([type(stream), type(lot)], [tuple, tuple])
            self.assertEqual({type(bears) for bears in stream}, {int})
            self.assertEqual(len(stream), len(web[0]))
            self.assertTrue(plain_stream(web, stream))
            self.assertTrue(plain_calms(web, stream, lot))
        for lot in all_lots(web):
            if plain_calms(web, first[0], lot):
                self.assertLessEqual(set(first[1]), set(lot))
            if plain_calms(web, last[0], lot):
                self.assertLessEqual(set(lot), set(last[1]))
        at = [k for k, road in enumerate(web[0]) if None in road[:2]]
        self.assertEqual([first[0][k] for k in at], [last[0][k] for k in at])
        return first, last

    def test_small_webs(self):
        several = 0
        for web in small_webs():
            first, last = self.look_at(web)
            fair = fair_of(web)
            at = [k for k, road in enumerate(web[0]) if None in road[:2]]
            calm_ones = [stream for stream in all_streams(web) if plain_calm(web, stream)]
            self.assertIn(first[0], calm_ones)
            self.assertIn(last[0], calm_ones)
            several += len(calm_ones) > 1
            for stream in calm_ones:
                self.assertEqual([stream[k] for k in at], [first[0][k] for k in at])
                for lot in all_lots(web):
                    if plain_calms(web, stream, lot):
                        self.look_at_pair(web, fair, sharing_of(web, stream, lot))
        self.assertGreater(several, 5)

    def look_at_pair(self, web, fair, sharing):
        """calm is the best one for givers, last_calm the best one for takers."""
        for giver in fair[1]:
            self.assertLessEqual(row_of(giver, sharing), row_of(giver, sharing_of(web, *calm(web))))
        for taker in fair[2]:
            self.assertLessEqual(row_of(taker, sharing), row_of(taker, sharing_of(web, *last_calm(web))))

    def test_great_webs(self):
        for web in great_webs():
            self.look_at(web)

    def test_asked_twice(self):
        for web in list(great_webs())[:10] + list(small_webs())[:10]:
            for function in (fair_of, calm, last_calm):
                unchanged(self, function, web)


if __name__ == "__main__":
    unittest.main()
