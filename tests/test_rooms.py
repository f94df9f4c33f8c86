import unittest

from tests.made import (RING, all_streams, any_web, dice_of, great_webs, is_int, plain_calm, small_webs, unchanged,
                        web_of)
from unturned.bounds import GREAT, HOUSES, ROADS
from unturned.errors import TooGreat
from unturned.leading import calm, last_calm
from unturned.rooms import change, door_row, with_room
from unturned.webs import webfault

LINE = web_of(2, [(None, 0, 2), (0, 1, 3), (1, None, 1)])
# Two in-doors to house 0, which takes by 0 more gladly; out by 2 and, liked less, by 3.
GATE = web_of(1, [(None, 0, 2), (None, 0, 2), (0, None, 3), (0, None, 2)])


def doors_of(web):
    return [k for k, road in enumerate(web[0]) if None in road[:2]]


def calm_rows(web):
    """What each calm stream bears at the doors, all streams gone through."""
    return {tuple((k, stream[k]) for k in doors_of(web)) for stream in all_streams(web) if plain_calm(web, stream)}


def wider(web, road):
    """The web with one unit more room there, written another way than with_room."""
    return (tuple((begin, end, room + (k == road)) for k, (begin, end, room) in enumerate(web[0])),) + web[1:]


def differences(one, other):
    return tuple((door, then - now) for (door, now), (same, then) in zip(one, other) if now != then)


class WithRoom(unittest.TestCase):
    def test_told_ones(self):
        self.assertEqual(unchanged(self, with_room, LINE, 1, 7), (((None, 0, 2), (0, 1, 7), (1, None, 1)),) + LINE[1:])
        self.assertEqual(with_room(LINE, 0, 0), (((None, 0, 0), (0, 1, 3), (1, None, 1)),) + LINE[1:])
        self.assertEqual(with_room(LINE, 2, GREAT), (((None, 0, 2), (0, 1, 3), (1, None, GREAT)),) + LINE[1:])
        self.assertEqual(with_room(LINE, 2, 1), LINE)

    def test_each_road_of_each_web(self):
        for web in [*small_webs(), *great_webs()]:
            for road, (begin, end, had) in enumerate(web[0]):
                for room in (0, 1, GREAT - 1, GREAT, had):
                    told = with_room(web, road, room)
                    self.assertIsNone(webfault(told))
                    self.assertEqual(told[1:], web[1:])
                    self.assertEqual(told[0], web[0][:road] + ((begin, end, room),) + web[0][road + 1:])


class DoorRow(unittest.TestCase):
    def test_told_ones(self):
        self.assertEqual(unchanged(self, door_row, LINE), ((0, 1), (2, 1)))
        self.assertEqual(unchanged(self, door_row, GATE), ((0, 2), (1, 2), (2, 3), (3, 1)))
        self.assertEqual(door_row(RING), ())
        self.assertEqual(door_row(with_room(GATE, 2, 1)), ((0, 2), (1, 1), (2, 1), (3, 2)))
        self.assertEqual(door_row(web_of(1, [(None, 0, GREAT), (0, None, GREAT)])), ((0, GREAT), (1, GREAT)))

    def look_at(self, web):
        row = door_row(web)
        self.assertIs(type(row), tuple)
        self.assertEqual([door for door, bears in row], doors_of(web))
        self.assertTrue(all(type(pair) is tuple and is_int(pair[1]) for pair in row))
        for stream, lot in (calm(web), last_calm(web)):
            self.assertEqual(row, tuple((k, stream[k]) for k in doors_of(web)))
        return row

    def test_all_calm_streams_bear_the_same(self):
        for web in small_webs():
            self.assertEqual(calm_rows(web), {self.look_at(web)})

    def test_great_webs(self):
        for web in great_webs():
            self.look_at(web)


class Change(unittest.TestCase):
    def test_of_doors(self):
        # One unit more comes in, one more goes out.
        self.assertEqual(unchanged(self, change, LINE, 2), ((0, 1), (2, 1)))
        self.assertEqual(change(with_room(GATE, 1, 0), 0), ((0, 1), (2, 1)))
        # The in-door that the house likes better takes the place of the other one.
        full = with_room(GATE, 3, 0)
        self.assertEqual(door_row(full), ((0, 2), (1, 1), (2, 3), (3, 0)))
        self.assertEqual(change(full, 0), ((0, 1), (1, -1)))
        self.assertEqual(change(full, 1), ())
        self.assertEqual(change(full, 2), ((1, 1), (2, 1)))
        self.assertEqual(change(full, 3), ((1, 1), (3, 1)))
        # The out-door that the house likes better takes from the other one.
        self.assertEqual(change(GATE, 2), ((2, 1), (3, -1)))
        self.assertEqual(change(GATE, 3), ())
        self.assertEqual(change(LINE, 0), ())

    def test_of_roads_between_houses(self):
        self.assertEqual(unchanged(self, change, LINE, 1), ())
        self.assertEqual(change(with_room(LINE, 1, 0), 1), ((0, 1), (2, 1)))
        self.assertEqual(change(RING, 2), ())
        # House 0 likes the road to house 1 better, its out-door gets what the other one loses.
        fork = web_of(3, [(None, 0, 3), (0, 1, 1), (0, 2, 3), (1, None, 3), (2, None, 3)])
        self.assertEqual(door_row(fork), ((0, 3), (3, 1), (4, 2)))
        self.assertEqual(change(fork, 1), ((3, 1), (4, -1)))
        # Both in-doors are told, none of the out-doors.
        meet = web_of(3, [(None, 0, 3), (None, 1, 3), (0, 2, 1), (1, 2, 3), (2, None, 3)])
        self.assertEqual(door_row(meet), ((0, 1), (1, 2), (4, 3)))
        self.assertEqual(change(meet, 2), ((0, 1), (1, -1)))

    def test_too_great(self):
        web = web_of(2, [(None, 0, GREAT), (0, 1, GREAT), (1, None, GREAT - 1)])
        for road in (0, 1):
            for turn in (0, 1):
                self.assertRaises(TooGreat, change, web, road)
        self.assertEqual(change(web, 2), ((0, 1), (2, 1)))
        full = with_room(web, 2, GREAT)
        self.assertRaises(TooGreat, change, full, 2)
        self.assertEqual(change(with_room(full, 1, GREAT - 1), 1), ((0, 1), (2, 1)))
        self.assertEqual(change(with_room(full, 0, GREAT - 1), 0), ((0, 1), (2, 1)))

    def look_at(self, web, road):
        """The pairs are as [18] tells; tells them."""
        told = change(web, road)
        self.assertIs(type(told), tuple)
        self.assertTrue(all(type(pair) is tuple and len(pair) == 2 and is_int(pair[1]) for pair in told))
        self.assertEqual([door for door, more in told], sorted({door for door, more in told}))
        self.assertLessEqual({door for door, more in told}, set(doors_of(web)))
        self.assertLessEqual({more for door, more in told}, {1, -1})
        begin, end = web[0][road][:2]
        if begin is not None and end is not None:
            self.assertLessEqual(len(told), 2)
        elif told:
            self.assertEqual(len(told), 2)
            self.assertIn((road, 1), told)
            other, more = [pair for pair in told if pair[0] != road][0]
            same_side = web[0][other].index(None) == web[0][road].index(None)
            self.assertEqual(more, -1 if same_side else 1)
        return told

    def test_small_webs(self):
        seen = set()
        for web in list(small_webs()) + list(busy_webs()):
            row = calm_rows(web).pop()
            for road in range(len(web[0])):
                told = self.look_at(web, road)
                for then in calm_rows(wider(web, road)):
                    self.assertEqual(told, differences(row, then))
                seen.add((None in web[0][road][:2], tuple(sorted(more for door, more in told))))
        self.assertLessEqual({(True, ()), (True, (1, 1)), (True, (-1, 1)), (False, ()), (False, (1, 1)), (False, (-1, 1))},
                             seen)

    def test_great_webs(self):
        for web in great_webs():
            for road in range(len(web[0])):
                if web[0][road][2] == GREAT:
                    self.assertRaises(TooGreat, change, web, road)
                else:
                    self.assertEqual(self.look_at(web, road), differences(door_row(web), door_row(wider(web, road))))

    def test_at_the_bounds(self):
        dice = dice_of(62)
        moved = 0
        for turn in range(40):
            web = any_web(dice, HOUSES, ROADS, GREAT - 1, outside=3, least=GREAT - 3)
            for road in range(ROADS):
                moved += self.look_at(web, road) != ()
        self.assertGreater(moved, 50)


def busy_webs():
    dice = dice_of(61)
    for turn in range(40):
        yield any_web(dice, dice.randint(1, 3), dice.randint(4, 6), 2, outside=2, least=1)
    for turn in range(10):
        yield any_web(dice, 3, 8, 1, outside=1, least=1)


if __name__ == "__main__":
    unittest.main()
