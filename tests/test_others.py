import itertools
import unittest

from tests.made import (RING, all_lots, all_streams, any_web, bent, calm_ones, dice_of, great_webs, is_int, many_rows,
                        odd_things, plain_calm, plain_calms, ringing_webs, small_webs, unchanged, web_of)
from unturned.bounds import GREAT, HOUSES, ROADS
from unturned.errors import BadOrder, Full, NoRoads, TooGreat
from unturned.leading import calm, last_calm
from unturned.others import beside, cut, liked_less, parted, times, turned, with_like, without
from unturned.rooms import door_row, with_room
from unturned.webs import webfault

# In to house 0 by 0, to house 1 by 4; between them by 1, 2 and 5; out of house 1 by 3.
ORDINARY = web_of(2, [(None, 0, 5), (0, 1, 4), (0, 1, 3), (1, None, 2), (None, 1, 1), (1, 0, 6)],
                  {0: (2, 1), 1: (5, 3)}, {0: (5, 0), 1: (4, 2, 1)})
ONE = web_of(1, [(None, 0, 3)])


def few_webs():
    """Small webs with few streams, so that all of them can be gone through often."""
    for web in list(small_webs())[::2] + list(ringing_webs())[::2]:
        if many_rows(web) <= 300:
            yield web


def all_webs():
    yield from small_webs()
    yield from ringing_webs()
    yield from great_webs()
    yield ORDINARY


def named(web):
    """The web with names in the place of numbers of roads and houses: {road: (begin, end, room)}, orders of names."""
    roads = {f"r{k}": tuple(None if end is None else f"h{end}" for end in row[:2]) + row[2:]
             for k, row in enumerate(web[0])}
    return [roads] + [{f"h{h}": [f"r{k}" for k in order] for h, order in enumerate(orders)} for orders in web[1:]]


def numbered(roads, gives, takes):
    """The web of names with numbers again, in the order in which the dicts have them."""
    road = {name: k for k, name in enumerate(roads)}
    house = {name: h for h, name in enumerate(gives)}
    house[None] = None
    return (tuple((house[begin], house[end], room) for begin, end, room in roads.values()),
            tuple(tuple(road[name] for name in order) for order in gives.values()),
            tuple(tuple(road[name] for name in order) for order in takes.values()))


def plain_cut(web, road):
    roads, gives, takes = named(web)
    name = f"r{road}"
    begin, end, room = roads[name]
    roads[name] = (begin, "new", room)
    roads["further"] = ("new", end, room)
    if end is not None:
        takes[end][takes[end].index(name)] = "further"
    gives["new"], takes["new"] = ["further"], [name]
    return numbered(roads, gives, takes)


def plain_parted(web, road, room):
    roads, gives, takes = named(web)
    name = f"r{road}"
    begin, end, had = roads[name]
    roads[name] = (begin, end, room)
    roads["further"] = (begin, end, had - room)
    for orders, house in ((gives, begin), (takes, end)):
        if house is not None:
            orders[house].insert(orders[house].index(name) + 1, "further")
    return numbered(roads, gives, takes)


def plain_without(web, road):
    roads, gives, takes = named(web)
    name = f"r{road}"
    begin, end, room = roads.pop(name)
    for orders, house in ((gives, begin), (takes, end)):
        if house is not None:
            orders[house].remove(name)
    return numbered(roads, gives, takes)


def plain_less(web, road, giving):
    roads, gives, takes = named(web)
    name = f"r{road}"
    orders, house = (gives, roads[name][0]) if giving else (takes, roads[name][1])
    if house is not None:
        orders[house].remove(name)
        orders[house].append(name)
    return numbered(roads, gives, takes)


def plain_beside(one, other):
    webs = [named(one), named(other)]
    told = []
    for at, part in enumerate(zip(*webs)):
        told.append({f"{web}{name}": tuple(f"{web}{thing}" if isinstance(thing, str) else thing for thing in row)
                     for web, names in enumerate(part) for name, row in names.items()})
    return numbered(*told)


class Turned(unittest.TestCase):
    def test_told_one(self):
        self.assertEqual(unchanged(self, turned, ORDINARY), (
            ((0, None, 5), (1, 0, 4), (1, 0, 3), (None, 1, 2), (1, None, 1), (0, 1, 6)),
            ((5, 0), (4, 2, 1)), ((2, 1), (5, 3))))

    def test_twice_it_is_the_web(self):
        for web in all_webs():
            self.assertIsNone(webfault(turned(web)))
            self.assertEqual(turned(turned(web)), web)
            self.assertEqual(turned(web)[1:], (web[2], web[1]))

    def test_calm_streams_and_lots(self):
        for web in list(small_webs()) + list(ringing_webs()):
            back = turned(web)
            for stream in all_streams(web):
                self.assertEqual(plain_calm(back, stream), plain_calm(web, stream))
                for lot in all_lots(web):
                    rest = tuple(h for h in range(len(web[1])) if h not in lot)
                    self.assertEqual(plain_calms(back, stream, rest), plain_calms(web, stream, lot))

    def test_calm_there_is_last_calm_here(self):
        for web in all_webs():
            stream, lot = last_calm(web)
            self.assertEqual(calm(turned(web)), (stream, tuple(h for h in range(len(web[1])) if h not in lot)))


class Times(unittest.TestCase):
    def test_told_one(self):
        self.assertEqual(unchanged(self, times, ORDINARY, 3), (
            ((None, 0, 15), (0, 1, 12), (0, 1, 9), (1, None, 6), (None, 1, 3), (1, 0, 18)), ORDINARY[1], ORDINARY[2]))
        self.assertEqual(times(ORDINARY, 1), ORDINARY)

    def test_just_great_and_beyond(self):
        for room, k in [(1, GREAT), (5, GREAT // 5), (GREAT, 1), (GREAT // 2, 2)]:
            web = web_of(1, [(None, 0, 1), (0, None, room), (None, 0, 0)])
            self.assertEqual(times(web, k)[0], ((None, 0, k), (0, None, GREAT), (None, 0, 0)))
            self.assertIsNone(webfault(times(web, k)))
            self.assertRaises(TooGreat, times, web, k + 1)
        self.assertRaises(TooGreat, times, web_of(1, [(None, 0, GREAT // 3 + 1)]), 3)
        self.assertEqual(times(web_of(1, [(None, 0, GREAT // 3)]), 3)[0], ((None, 0, GREAT - 1),))
        # Whichever road it is.
        for at in range(3):
            self.assertRaises(TooGreat, times, with_room(RING, at, GREAT), 2)

    def test_no_room_at_all(self):
        web = web_of(2, [(0, 1, 0), (1, 0, 0)])
        self.assertEqual(times(web, 10 ** 29), web)

    def test_calm_streams(self):
        for web in list(small_webs()) + list(ringing_webs()):
            for k in (2, 3, GREAT // 9):
                great = times(web, k)
                self.assertIsNone(webfault(great))
                self.assertEqual(door_row(great), tuple((door, bears * k) for door, bears in door_row(web)))
            for stream in all_streams(web):
                self.assertEqual(plain_calm(times(web, 2), tuple(2 * b for b in stream)), plain_calm(web, stream))


class Beside(unittest.TestCase):
    def test_told_one(self):
        self.assertEqual(unchanged(self, beside, RING, ORDINARY), (
            RING[0] + ((None, 3, 5), (3, 4, 4), (3, 4, 3), (4, None, 2), (None, 4, 1), (4, 3, 6)),
            ((0,), (1,), (2,), (5, 4), (8, 6)), ((2,), (0,), (1,), (8, 3), (7, 5, 4))))

    def test_full(self):
        empty = web_of(4, [(0, 1, 1)])
        self.assertEqual(len(beside(empty, empty)[1]), HOUSES)
        self.assertIsNone(webfault(beside(empty, empty)))
        for one, other in [(empty, web_of(5, [(0, 1, 1)])), (web_of(5, [(0, 1, 1)]), empty),
                           (web_of(HOUSES, [(0, 1, 1)]), ONE), (ONE, web_of(HOUSES, [(0, 1, 1)]))]:
            self.assertRaises(Full, beside, one, other)
        ten = web_of(1, [(None, 0, 1)] * 10)
        self.assertEqual(len(beside(ten, ten)[0]), ROADS)
        self.assertIsNone(webfault(beside(ten, ten)))
        for one, other in [(ten, web_of(1, [(None, 0, 1)] * 11)), (web_of(1, [(None, 0, 1)] * 11), ten),
                           (web_of(1, [(None, 0, 1)] * ROADS), ONE), (ONE, web_of(1, [(None, 0, 1)] * ROADS))]:
            self.assertRaises(Full, beside, one, other)

    def test_calm_streams_side_by_side(self):
        webs = [web for web in few_webs() if many_rows(web) <= 30][::3]
        for one, other in itertools.product(webs[::2], webs[1::2]):
            both = beside(one, other)
            self.assertEqual(both, plain_beside(one, other))
            self.assertIsNone(webfault(both))
            self.assertEqual(calm_ones(both), [a + b for a in calm_ones(one) for b in calm_ones(other)])


class Cut(unittest.TestCase):
    def test_told_ones(self):
        self.assertEqual(unchanged(self, cut, ORDINARY, 2), (
            ORDINARY[0][:2] + ((0, 2, 3),) + ORDINARY[0][3:] + ((2, 1, 3),),
            ((2, 1), (5, 3), (6,)), ((5, 0), (4, 6, 1), (2,))))
        self.assertEqual(unchanged(self, cut, ORDINARY, 0), (
            ((None, 2, 5),) + ORDINARY[0][1:] + ((2, 0, 5),), ((2, 1), (5, 3), (6,)), ((5, 6), (4, 2, 1), (0,))))
        self.assertEqual(unchanged(self, cut, ORDINARY, 3), (
            ORDINARY[0][:3] + ((1, 2, 2),) + ORDINARY[0][4:] + ((2, None, 2),),
            ((2, 1), (5, 3), (6,)), ((5, 0), (4, 2, 1), (3,))))

    def test_full(self):
        self.assertIsNone(webfault(cut(web_of(HOUSES - 1, [(None, 0, 1)] * (ROADS - 1)), 3)))
        self.assertRaises(Full, cut, web_of(HOUSES, [(None, 0, 1)]), 0)
        self.assertRaises(Full, cut, web_of(1, [(None, 0, 1)] * ROADS), 0)
        self.assertRaises(Full, cut, web_of(HOUSES, [(None, 0, 1)] * ROADS), 0)

    def test_each_road(self):
        for web in all_webs():
            for road in range(len(web[0])):
                if len(web[1]) < HOUSES and len(web[0]) < ROADS:
                    self.assertEqual(cut(web, road), plain_cut(web, road))
                    self.assertIsNone(webfault(cut(web, road)))
                else:
                    self.assertRaises(Full, cut, web, road)

    def test_calm_streams(self):
        for web in few_webs():
            for road in range(len(web[0])):
                there = calm_ones(cut(web, road))
                self.assertEqual(there, [stream + (stream[road],) for stream in calm_ones(web)])

    def test_great_ones(self):
        dice = dice_of(71)
        for turn in range(30):
            web = any_web(dice, HOUSES - 1, ROADS - 1, GREAT, outside=2, least=GREAT - 9)
            road = dice.randrange(ROADS - 1)
            first, last = calm(web)[0], last_calm(web)[0]
            self.assertEqual(calm(cut(web, road))[0], first + (first[road],))
            self.assertEqual(last_calm(cut(web, road))[0], last + (last[road],))


class Parted(unittest.TestCase):
    def test_told_ones(self):
        self.assertEqual(unchanged(self, parted, ORDINARY, 2, 1), (
            ORDINARY[0][:2] + ((0, 1, 1),) + ORDINARY[0][3:] + ((0, 1, 2),),
            ((2, 6, 1), (5, 3)), ((5, 0), (4, 2, 6, 1))))
        self.assertEqual(unchanged(self, parted, ORDINARY, 0, 0), (
            ((None, 0, 0),) + ORDINARY[0][1:] + ((None, 0, 5),), ((2, 1), (5, 3)), ((5, 0, 6), (4, 2, 1))))
        self.assertEqual(unchanged(self, parted, ORDINARY, 3, 2), (
            ORDINARY[0] + ((1, None, 0),), ((2, 1), (5, 3, 6)), ((5, 0), (4, 2, 1))))

    def test_full(self):
        self.assertIsNone(webfault(parted(web_of(HOUSES, [(None, 0, 1)] * (ROADS - 1)), 3, 1)))
        self.assertRaises(Full, parted, web_of(1, [(None, 0, 1)] * ROADS), 0, 0)
        self.assertRaises(Full, parted, web_of(HOUSES, [(None, 0, 1)] * ROADS), 5, 1)

    def test_each_road(self):
        for web in all_webs():
            for road, (begin, end, had) in enumerate(web[0]):
                for room in {0, had // 2, had}:
                    if len(web[0]) < ROADS:
                        self.assertEqual(parted(web, road, room), plain_parted(web, road, room))
                        self.assertIsNone(webfault(parted(web, road, room)))
                    else:
                        self.assertRaises(Full, parted, web, road, room)

    def test_calm_streams(self):
        for web in few_webs():
            for road, (begin, end, had) in enumerate(web[0]):
                for room in range(had + 1):
                    there = set(calm_ones(parted(web, road, room)))
                    self.assertEqual(there, {self.bears(stream, road, room) for stream in calm_ones(web)})

    def bears(self, stream, road, room):
        kept = min(room, stream[road])
        return stream[:road] + (kept,) + stream[road + 1:] + (stream[road] - kept,)

    def test_great_ones(self):
        dice = dice_of(72)
        for turn in range(30):
            web = any_web(dice, HOUSES, ROADS - 1, GREAT, outside=2, least=GREAT - 9)
            road = dice.randrange(ROADS - 1)
            room = dice.randint(0, web[0][road][2])
            self.assertEqual(calm(parted(web, road, room))[0], self.bears(calm(web)[0], road, room))


class Without(unittest.TestCase):
    def test_told_ones(self):
        self.assertEqual(unchanged(self, without, ORDINARY, 2), (
            ORDINARY[0][:2] + ORDINARY[0][3:], ((1,), (4, 2)), ((4, 0), (3, 1))))
        self.assertEqual(without(ORDINARY, 0), (ORDINARY[0][1:], ((1, 0), (4, 2)), ((4,), (3, 1, 0))))
        self.assertEqual(without(ORDINARY, 5), (ORDINARY[0][:5], ((2, 1), (3,)), ((0,), (4, 2, 1))))

    def test_no_roads(self):
        for web in (ONE, web_of(3, [(2, 1, GREAT)])):
            self.assertRaises(NoRoads, without, web, 0)
        self.assertEqual(without(web_of(2, [(None, 0, 1), (0, 1, 2)]), 0), web_of(2, [(0, 1, 2)]))

    def test_each_road(self):
        for web in all_webs():
            for road in range(len(web[0])):
                if len(web[0]) > 1:
                    self.assertEqual(without(web, road), plain_without(web, road))
                    self.assertIsNone(webfault(without(web, road)))

    def test_what_bears_nothing_there_is_calm_still(self):
        many = 0
        for web in few_webs():
            for stream in calm_ones(web):
                for road in range(len(web[0])):
                    if stream[road] == 0 and len(web[0]) > 1:
                        many += 1
                        self.assertTrue(plain_calm(without(web, road), stream[:road] + stream[road + 1:]))
        self.assertGreater(many, 200)


class LikedLess(unittest.TestCase):
    def test_told_ones(self):
        roads, gives, takes = ORDINARY
        self.assertEqual(unchanged(self, liked_less, ORDINARY, 2), (roads, ((1, 2), (5, 3)), takes))
        self.assertEqual(unchanged(self, liked_less, ORDINARY, 2, giving=True), (roads, ((1, 2), (5, 3)), takes))
        self.assertEqual(unchanged(self, liked_less, ORDINARY, 2, giving=False), (roads, gives, ((5, 0), (4, 1, 2))))
        self.assertEqual(liked_less(ORDINARY, 4, giving=False), (roads, gives, ((5, 0), (2, 1, 4))))
        self.assertEqual(liked_less(ORDINARY, 1), ORDINARY)

    def test_no_house_there(self):
        for road in (0, 4):
            self.assertEqual(unchanged(self, liked_less, ORDINARY, road), ORDINARY)
        self.assertEqual(unchanged(self, liked_less, ORDINARY, 3, giving=False), ORDINARY)

    def test_giving_by_its_name_alone(self):
        self.assertRaises(TypeError, lambda: liked_less(ORDINARY, 2, False))
        self.assertRaises(TypeError, lambda: with_like(ORDINARY, 0, (5, 0), False))

    def test_each_road(self):
        for web in all_webs():
            for road in range(len(web[0])):
                self.assertEqual(liked_less(web, road), plain_less(web, road, True))
                for giving in (True, False):
                    told = liked_less(web, road, giving=giving)
                    self.assertEqual(told, plain_less(web, road, giving))
                    self.assertIsNone(webfault(told))

    def test_what_bears_nothing_there_is_calm_still(self):
        for web in few_webs():
            for stream in calm_ones(web):
                for road in range(len(web[0])):
                    if stream[road] == 0:
                        for giving in (True, False):
                            self.assertTrue(plain_calm(liked_less(web, road, giving=giving), stream))


class WithLike(unittest.TestCase):
    def test_told_ones(self):
        roads, gives, takes = ORDINARY
        self.assertEqual(unchanged(self, with_like, ORDINARY, 0, (1, 2)), (roads, ((1, 2), (5, 3)), takes))
        self.assertEqual(unchanged(self, with_like, ORDINARY, 1, (3, 5), giving=True), (roads, ((2, 1), (3, 5)), takes))
        self.assertEqual(unchanged(self, with_like, ORDINARY, 1, (1, 2, 4), giving=False),
                         (roads, gives, ((5, 0), (1, 2, 4))))
        self.assertEqual(with_like(ORDINARY, 0, (2, 1)), ORDINARY)
        self.assertEqual(with_like(ONE, 0, ()), ONE)
        self.assertEqual(with_like(ONE, 0, (0,), giving=False), ONE)

    def look(self, web, house, order, giving):
        roads = [k for k, road in enumerate(web[0]) if road[0 if giving else 1] == house]
        said = repr((web, order))
        if type(order) is tuple and all(is_int(k) for k in order) and sorted(order) == roads:
            told = with_like(web, house, order, giving=giving)
            place = 1 if giving else 2
            self.assertEqual(told[place][house], order)
            self.assertEqual(told[place][:house] + told[place][house + 1:], web[place][:house] + web[place][house + 1:])
            self.assertEqual((told[0], told[3 - place]), (web[0], web[3 - place]))
            self.assertIsNone(webfault(told))
        else:
            with self.assertRaises(BadOrder):
                with_like(web, house, order, giving=giving)
        self.assertEqual(repr((web, order)), said)

    def test_bad_orders(self):
        for order in [[2, 1], (2,), (1,), (), (1, 2, 2), (1, 1), (1, 2, 0), (1, 2, 5), (5, 3), (True, 2), (2, True),
                      (2, "1"), (2, None), (2, (1,)), ((2, 1),), "21", None, True, 0, {}, {"1": 2}, (1, [2]), (1, -2),
                      (2, 10 ** 29)]:
            self.assertRaises(BadOrder, with_like, ORDINARY, 0, order)
            self.assertRaises(BadOrder, with_like, ORDINARY, 0, order, giving=False)
        for order in [(4, 2), (4, 2, True), (4, 2, 1, 1), [4, 2, 1], (5, 0), (5, 3)]:
            self.assertRaises(BadOrder, with_like, ORDINARY, 1, order, giving=False)
        for order in [[], None, False, (False,), (0,), "", {}]:
            self.assertRaises(BadOrder, with_like, ONE, 0, order)

    def test_whatever_it_is(self):
        for house, giving in itertools.product((0, 1), (True, False)):
            order = ORDINARY[1 if giving else 2][house]
            for thing in odd_things() + list(bent(order)) + list(itertools.permutations(order)):
                self.look(ORDINARY, house, thing, giving)
        for thing in odd_things() + list(bent(())):
            self.look(ONE, 0, thing, True)

    def test_some_orders_of_each_web(self):
        dice = dice_of(73)
        for web in all_webs():
            for house, giving in itertools.product(range(len(web[1])), (True, False)):
                order = list(web[1 if giving else 2][house])
                dice.shuffle(order)
                self.look(web, house, tuple(order), giving)


class WithRoomLeft(unittest.TestCase):
    def test_calm_with_any_room_not_less(self):
        many = 0
        for web in few_webs():
            for stream in calm_ones(web):
                for road, (begin, end, room) in enumerate(web[0]):
                    if stream[road] < room:
                        for other in (*range(stream[road], room + 2), GREAT):
                            many += 1
                            self.assertTrue(plain_calm(with_room(web, road, other), stream))
        self.assertGreater(many, 200)

    def test_asked_twice(self):
        for web in list(few_webs())[::9]:
            for road in range(len(web[0])):
                unchanged(self, cut, web, road)
                unchanged(self, parted, web, road, 0)
                unchanged(self, turned, web)
                unchanged(self, times, web, 2)
                unchanged(self, beside, web, web)
                unchanged(self, liked_less, web, road, giving=False)


if __name__ == "__main__":
    unittest.main()
