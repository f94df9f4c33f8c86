"""What the document promises over the whole program."""

import itertools
import unittest

from tests.made import (AGAINST, RING, all_lots, all_pairs, all_streams, all_walks, any_web, calm_ones, dice_of, great_webs, is_int,
                        many_rows, mixed, plain_calm, ringing_webs, small_webs, swaps, unchanged, web_of)
from unturned.bounds import GREAT, HOUSES, ROADS
from unturned.bundles import bundle, bundle_holds
from unturned.desks import Desk
from unturned.errors import Full
from unturned.fairs import loose
from unturned.greatest import greatest, lost, narrow_room, narrowest
from unturned.halls import Hall
from unturned.leading import calm, fair_of, last_calm, sharing_of, stream_of
from unturned.liking import both_liked
from unturned.lots import calms, greatest_lot, is_calm, least_lot
from unturned.others import beside, cut, liked_less, parted, times, turned, without
from unturned.pairs import is_pair, joined, liked, met
from unturned.rises import most_by, rise
from unturned.rooms import change, door_row, with_room
from unturned.settling import settle, settle_back
from unturned.small import bears_at, calm_streams, many_lots, streams_of
from unturned.streams import at_doors, nothing, streamfault, through, worth
from unturned.texts import read_stream, read_web, stream_text, web_text
from unturned.verdicts import verdict, verdict_holds
from unturned.webs import doors, in_doors, out_doors, webfault


def few_webs():
    """Small webs of which all streams are gone through several times."""
    return [web for web in [*small_webs(), *ringing_webs()] if many_rows(web) <= 300]


class Renumbered:
    """A web with its houses and roads numbered otherwise, and what is told of it led back."""

    def __init__(self, dice, web):
        roads, gives, takes = web
        self.house = mixed(dice, range(len(gives)))
        self.road = mixed(dice, range(len(roads)))
        rows, orders = [None] * len(roads), [[None] * len(gives), [None] * len(gives)]
        for number, (begin, end, room) in enumerate(roads):
            rows[self.road[number]] = (self.end(begin), self.end(end), room)
        for place in (0, 1):
            for number, order in enumerate((gives, takes)[place]):
                orders[place][self.house[number]] = tuple(self.road[road] for road in order)
        self.web = (tuple(rows), tuple(orders[0]), tuple(orders[1]))

    def end(self, end):
        return None if end is None else self.house[end]

    def stream(self, stream):
        """A stream of the web led to this one."""
        return tuple(stream[self.road.index(number)] for number in range(len(stream)))

    def lot(self, lot):
        return None if lot is None else tuple(sorted(self.house[house] for house in lot))

    def pair(self, pair):
        return (self.stream(pair[0]), self.lot(pair[1]))

    def rows(self, rows):
        return tuple(sorted((self.road[road], *rest) for road, *rest in rows))


class NumberedOtherwise(unittest.TestCase):
    def look_at(self, dice, web):
        other = Renumbered(dice, web)
        self.assertIsNone(webfault(other.web))
        self.assertEqual(calm(other.web), other.pair(calm(web)))
        self.assertEqual(last_calm(other.web), other.pair(last_calm(web)))
        self.assertEqual(door_row(other.web), other.rows(door_row(web)))
        self.assertEqual(lost(other.web), lost(web))
        for tell in (in_doors, out_doors, doors):
            self.assertEqual(tell(other.web), tuple(sorted(other.road[road] for road in tell(web))))
        for road in range(len(web[0])):
            if web[0][road][2] < GREAT:
                self.assertEqual(change(other.web, other.road[road]), other.rows(change(web, road)))
        for door in doors(web):
            self.assertEqual(most_by(other.web, other.road[door]), most_by(web, door))
            self.assertEqual(rise(other.web, other.road[door]),
                             tuple((many, other.road[road], more) for many, road, more in rise(web, door)))
        for stream in (calm(web)[0], last_calm(web)[0], greatest(web), nothing(web)):
            led = other.stream(stream)
            self.assertEqual(verdict(other.web, led)[0], verdict(web, stream)[0])
            self.assertEqual(least_lot(other.web, led), other.lot(least_lot(web, stream)))
            self.assertEqual(greatest_lot(other.web, led), other.lot(greatest_lot(web, stream)))
            self.assertEqual(worth(other.web, led), worth(web, stream))
        return other

    def test_great_webs(self):
        dice = dice_of(171)
        for web in list(great_webs())[::3]:
            self.look_at(dice, web)

    def test_small_webs(self):
        dice = dice_of(172)
        for web in few_webs()[::2]:
            other = self.look_at(dice, web)
            self.assertEqual(set(streams_of(other.web)), {other.stream(stream) for stream in streams_of(web)})
            self.assertEqual(set(calm_streams(other.web)), {other.stream(stream) for stream in calm_streams(web)})
            for road in range(len(web[0])):
                self.assertEqual(bears_at(other.web, other.road[road]), bears_at(web, road))
            for stream in streams_of(web):
                self.assertEqual(many_lots(other.web, other.stream(stream)), many_lots(web, stream))
            pairs = all_pairs(web)
            for one, two in itertools.product(pairs[:5], pairs[-5:]):
                led = [other.pair(one), other.pair(two)]
                self.assertEqual(joined(other.web, *led), other.pair(joined(web, one, two)))
                self.assertEqual(met(other.web, *led), other.pair(met(web, one, two)))
                for house in range(len(web[1])):
                    self.assertEqual(liked(other.web, other.house[house], *led), liked(web, house, one, two))


class ManyTimesAsGreat(unittest.TestCase):
    def test_small_webs(self):
        for web in few_webs():
            for k in (1, 2, 7, GREAT // 100):
                greater = times(web, k)
                for stream in calm_ones(web)[:8]:
                    led = tuple(k * bears for bears in stream)
                    self.assertTrue(is_calm(greater, led))
                    self.assertEqual(least_lot(greater, led), least_lot(web, stream))
                self.assertEqual(door_row(greater), tuple((door, k * bears) for door, bears in door_row(web)))
                for door in doors(web):
                    self.assertEqual(most_by(greater, door), k * most_by(web, door))
                    self.assertEqual(rise(greater, door), tuple((k * many, other, more) for many, other, more in rise(web, door)))
                self.assertEqual(lost(greater), k * lost(web))

    def test_those_that_turn(self):
        for web in few_webs()[::3]:
            for stream in all_streams(web):
                led = tuple(3 * bears for bears in stream)
                self.assertEqual(verdict(times(web, 3), led)[0], verdict(web, stream)[0])


class TurnedAbout(unittest.TestCase):
    def test_all_webs(self):
        for web in few_webs() + list(great_webs()):
            other = turned(web)
            houses = range(len(web[1]))
            for (stream, lot), (last, last_lot) in ((calm(web), last_calm(other)), (last_calm(web), calm(other))):
                self.assertEqual((last, last_lot), (stream, tuple(h for h in houses if h not in lot)))
            self.assertEqual(door_row(other), door_row(web))
            for road in range(len(web[0])):
                if web[0][road][2] < GREAT:
                    self.assertEqual(change(other, road), change(web, road))
            for door in doors(web):
                self.assertEqual((most_by(other, door), rise(other, door)), (most_by(web, door), rise(web, door)))

    def test_all_streams(self):
        for web in few_webs():
            self.assertEqual(set(calm_streams(turned(web))), set(calm_ones(web)))


class Promise(unittest.TestCase):
    """The sentences of [2], one by one."""

    def test_for_every_web_a_calm_stream_is_told(self):
        for web in few_webs():
            streams = calm_ones(web)
            for stream, lot in (calm(web), last_calm(web)):
                self.assertIn(stream, streams)
                self.assertTrue(all(is_int(bears) for bears in stream))
        for web in great_webs():
            for stream, lot in (calm(web), last_calm(web)):
                self.assertIsNone(streamfault(web, stream))
                self.assertTrue(calms(web, stream, lot))
                self.assertEqual(verdict(web, stream), ("lot", least_lot(web, stream)))

    def test_just_one_of_two_papers(self):
        for web in few_webs()[::2]:
            for stream in all_streams(web):
                lots = any(verdict_holds(web, stream, ("lot", lot)) for lot in all_lots(web))
                walks = any(verdict_holds(web, stream, ("walk", walk)) for walk in all_walks(web, stream))
                self.assertNotEqual(lots, walks)
                self.assertEqual(verdict(web, stream)[0], "lot" if lots else "walk")
                self.assertTrue(verdict_holds(web, stream, verdict(web, stream)))
        for web in great_webs():
            for stream in (calm(web)[0], greatest(web), nothing(web)):
                word, paper = verdict(web, stream)
                lots = [lot for lot in all_lots(web) if verdict_holds(web, stream, ("lot", lot))]
                self.assertEqual((word == "lot", verdict_holds(web, stream, (word, paper))), (bool(lots), True))

    def test_all_calm_streams_bear_the_same_on_each_door(self):
        for web in few_webs():
            self.assertEqual({at_doors(web, stream) for stream in calm_ones(web)}, {door_row(web)})
            for door, bears in door_row(web):
                self.assertEqual(bears_at(web, door), (bears,))
        for web in great_webs():
            self.assertEqual({at_doors(web, pair[0]) for pair in (calm(web), last_calm(web))}, {door_row(web)})

    def otherwise(self, web, road):
        """How the doors bear otherwise with one unit more room at the road, by all calm streams or by door_row."""
        wider = with_room(web, road, web[0][road][2] + 1)
        if many_rows(wider) <= 300:
            row = {at_doors(wider, stream) for stream in calm_ones(wider)}
            self.assertEqual(len(row), 1)
            then = dict(row.pop())
        else:
            then = dict(door_row(wider))
        return {door: then[door] - bears for door, bears in door_row(web) if then[door] != bears}

    def test_one_unit_more_room(self):
        for web in few_webs() + list(great_webs())[::2]:
            for road, (begin, end, room) in enumerate(web[0]):
                if room == GREAT:
                    continue
                moved = self.otherwise(web, road)
                self.assertEqual(change(web, road), tuple(sorted(moved.items())))
                self.assertLessEqual(len(moved), 2)
                self.assertLessEqual(set(moved.values()), {1, -1})
                if None in (begin, end) and moved:
                    self.assertEqual((moved[road], len(moved)), (1, 2))

    def test_the_lesser_of_its_room_and_a_number_told(self):
        for web in few_webs() + list(great_webs())[::2]:
            for door, bears in door_row(web):
                most = most_by(web, door)
                self.assertEqual(bears, min(web[0][door][2], most))
                self.assertEqual(sum(many for many, other, more in rise(web, door)), most)
                for room in {0, 1, most // 2, most, min(most + 1, GREAT), GREAT}:
                    row = dict(door_row(with_room(web, door, room)))
                    self.assertEqual(row[door], min(room, most))
                    # And the others by the rows.
                    right, left = dict(door_row(with_room(web, door, 0))), min(room, most)
                    right[door] = left
                    for many, other, more in rise(web, door):
                        right[other] += more * min(many, left)
                        left -= min(many, left)
                    self.assertEqual(row, right)

    def test_of_two_calm_streams_two_more(self):
        for web in few_webs():
            pairs = all_pairs(web)
            for one, other in itertools.product(pairs[:9], pairs[-9:]):
                self.two_more(web, one, other)
        for web in great_webs():
            self.two_more(web, calm(web), last_calm(web))
            self.two_more(web, last_calm(web), calm(web))

    def two_more(self, web, one, other):
        first, second = joined(web, one, other), met(web, one, other)
        for stream, lot in (first, second):
            self.assertTrue(is_calm(web, stream))
            self.assertTrue(is_pair(web, (stream, lot)))
        self.assertEqual([a + b for a, b in zip(first[0], second[0])], [a + b for a, b in zip(one[0], other[0])])
        # The same told of their sharings, what they are worth to givers.
        fair = fair_of(web)
        better, worse = both_liked(fair, sharing_of(web, *one), sharing_of(web, *other))
        self.assertEqual((stream_of(web, better), stream_of(web, worse)), (first, second))

    def test_led_to_other_webs_a_calm_one_is_calm_still(self):
        dice = dice_of(173)
        for web in few_webs() + list(great_webs())[::3]:
            streams = calm_ones(web) if many_rows(web) <= 300 else [calm(web)[0], last_calm(web)[0]]
            for stream in streams[:6]:
                self.assertTrue(is_calm(turned(web), stream))
                road = dice.randrange(len(web[0]))
                begin, end, room = web[0][road]
                if len(web[0]) < ROADS:
                    keeps = dice.randint(0, room)
                    least = min(keeps, stream[road])
                    led = stream[:road] + (least,) + stream[road + 1:] + (stream[road] - least,)
                    self.assertTrue(is_calm(parted(web, road, keeps), led))
                    if len(web[1]) < HOUSES:
                        self.assertTrue(is_calm(cut(web, road), stream + (stream[road],)))
                else:
                    self.assertRaises(Full, parted, web, road, 0)
                    self.assertRaises(Full, cut, web, road)
                if stream[road] == 0:
                    self.assertTrue(is_calm(liked_less(web, road), stream))
                    self.assertTrue(is_calm(liked_less(web, road, giving=False), stream))
                    if len(web[0]) > 1:
                        self.assertTrue(is_calm(without(web, road), stream[:road] + stream[road + 1:]))
                if stream[road] < room:
                    for other in (stream[road], GREAT):
                        self.assertTrue(is_calm(with_room(web, road, other), stream))
                if 2 * len(web[0]) <= ROADS and 2 * len(web[1]) <= HOUSES:
                    self.assertTrue(is_calm(beside(web, web), stream + streams[-1]))


class Together(unittest.TestCase):
    """Papers and numbers of several files that belong together."""

    def test_bundles_texts_and_lots(self):
        for web in few_webs()[::2] + list(great_webs())[::3]:
            self.assertEqual(read_web(web_text(web)), web)
            streams = list(all_streams(web))[-8:] if many_rows(web) <= 300 else [calm(web)[0], greatest(web)]
            for stream in streams:
                self.assertEqual(read_stream(web, stream_text(stream)), stream)
                rows = bundle(web, stream)
                self.assertTrue(bundle_holds(web, stream, rows))
                # Just the ways bring worth.
                ways = [many for roads, many in rows if web[0][roads[0]][0] is None]
                self.assertEqual(sum(ways), worth(web, stream))
                lot = least_lot(web, stream)
                if lot is not None:
                    self.assertLessEqual(worth(web, stream), narrow_room(web, narrowest(web)))

    def test_pairs_and_sharings(self):
        for web in few_webs()[::2]:
            fair = fair_of(web)
            for stream, lot in all_pairs(web)[:12]:
                sharing = sharing_of(web, stream, lot)
                self.assertEqual(loose(fair, sharing), ())
                self.assertEqual(stream_of(web, sharing), (stream, lot))
            self.assertEqual(stream_of(web, settle(fair)), calm(web))
            self.assertEqual(stream_of(web, settle_back(fair)), last_calm(web))

    def test_a_hall_and_a_desk_tell_the_same(self):
        for web in few_webs()[::4] + list(great_webs())[::8]:
            hall = Hall(web)
            desk = Desk(hall)
            self.assertEqual(desk.say("calm"), stream_text(hall.calm()[0]))
            self.assertEqual(hall.door_row(), door_row(web))
            self.assertEqual(desk.say("lost"), str(lost(web)))
            hall.build() if len(web[1]) < HOUSES else hall.widen(0, 0)
            self.assertEqual(read_web(web_text(hall.web())), hall.web())
            self.assertEqual(desk.say("doors").split(" "), [f"{d}:{b}" for d, b in door_row(hall.web())] or ["-"])

    def test_nothing_handed_in_is_changed(self):
        one, other = swaps(2, 2), AGAINST
        for web in (one, other, RING, web_of(2, [(None, 0, 2), (0, 1, 3), (1, None, 1)])):
            stream, lot = calm(web)
            pair = (stream, lot)
            fair = fair_of(web)
            asked = [(webfault, web), (in_doors, web), (doors, web), (out_doors, web), (nothing, web), (through, web, stream),
                     (worth, web, stream), (at_doors, web, stream), (bundle, web, stream), (verdict, web, stream), (calm, web),
                     (last_calm, web), (door_row, web), (fair_of, web), (sharing_of, web, stream, lot), (settle, fair),
                     (both_liked, fair, settle(fair), settle_back(fair)), (joined, web, pair, last_calm(web)), (met, web, pair, pair),
                     (turned, web), (times, web, 3), (greatest, web), (narrowest, web), (lost, web), (streams_of, web),
                     (calm_streams, web), (bears_at, web, 0), (many_lots, web, stream), (web_text, web), (stream_text, stream),
                     (read_web, web_text(web)), (read_stream, web, stream_text(stream)), (change, web, 0), (least_lot, web, stream)]
            asked += [(function, web, door) for function in (most_by, rise) for door in doors(web)]
            for function, *handed in asked:
                unchanged(self, function, *handed)

    def test_calm_by_all_walks(self):
        dice = dice_of(174)
        for turn in range(30):
            web = any_web(dice, dice.randint(1, 4), dice.randint(3, 7), GREAT, outside=2)
            for stream, lot in (calm(web), last_calm(web)):
                self.assertTrue(plain_calm(web, stream))


if __name__ == "__main__":
    unittest.main()
