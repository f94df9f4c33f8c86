import unittest

from tests.made import (RING, any_web, calm_ones, dice_of, great_webs, is_int, many_rows, ringing_webs, small_webs, unchanged,
                        web_of)
from unturned.bounds import GREAT, HOUSES, ROADS
from unturned.errors import NoDoor, WebError
from unturned.others import turned
from unturned.rises import most_by, rise
from unturned.rooms import change, door_row, with_room

LINE = web_of(2, [(None, 0, 2), (0, 1, 3), (1, None, 1)])
# Two in-doors to house 0, which takes by 0 more gladly; out by 2 and, liked less, by 3.
GATE = web_of(1, [(None, 0, 2), (None, 0, 2), (0, None, 3), (0, None, 2)])


def doors_of(web):
    return [k for k, road in enumerate(web[0]) if None in road[:2]]


def busy_webs():
    """Small webs with several doors, so that several of them go with one."""
    dice = dice_of(141)
    while True:
        web = any_web(dice, dice.randint(1, 3), dice.randint(4, 7), 2, outside=dice.randint(1, 3), least=1)
        if 3 <= len(doors_of(web)) and many_rows(web) <= 250:
            yield web


def some(webs, many):
    return [web for turn, web in zip(range(many), webs)]


class Case(unittest.TestCase):
    def look_at_form(self, web, door):
        """The rows are as [19] tells; tells them and most_by."""
        rows, most = rise(web, door), most_by(web, door)
        self.assertTrue(is_int(most) and 0 <= most <= GREAT)
        self.assertIs(type(rows), tuple)
        for row in rows:
            self.assertEqual((type(row), len(row)), (tuple, 3))
            many, other, more = row
            self.assertTrue(is_int(many) and many >= 1 and is_int(other) and is_int(more))
            self.assertIn(other, doors_of(web))
            self.assertNotEqual(other, door)
            # What comes in goes out, or takes the place of what comes in elsewhere.
            same_side = web[0][other].index(None) == web[0][door].index(None)
            self.assertEqual(more, -1 if same_side else 1)
        for one, next_one in zip(rows, rows[1:]):
            self.assertNotEqual(one[1:], next_one[1:])
        self.assertEqual(sum(many for many, other, more in rows), most)
        self.assertEqual(rows == (), most == 0)
        return rows, most


class SmallWebs(Case):
    def test_told_ones(self):
        self.assertEqual(unchanged(self, most_by, LINE, 0), 1)
        self.assertEqual(unchanged(self, rise, LINE, 0), ((1, 2, 1),))
        self.assertEqual(most_by(LINE, 2), 2)
        self.assertEqual(rise(LINE, 2), ((2, 0, 1),))
        # With no room at 0 in-door 1 bears 2, all out by 2, which has room for one more; 3 is filled then, and 1 gives way.
        self.assertEqual(unchanged(self, rise, GATE, 0), ((1, 2, 1), (2, 3, 1), (2, 1, -1)))
        self.assertEqual(most_by(GATE, 0), 5)
        self.assertEqual(rise(GATE, 1), ((1, 2, 1), (2, 3, 1)))
        self.assertEqual(most_by(GATE, 1), 3)
        # With no room at 2, 0 bears 2 and 1 nothing, all out by 3; 1 is filled first, then 3 gives way.
        self.assertEqual(rise(GATE, 2), ((2, 1, 1), (2, 3, -1)))
        self.assertEqual(rise(GATE, 3), ((1, 1, 1),))

    def test_of_none(self):
        for web in (web_of(1, [(None, 0, 5)]), web_of(1, [(None, 0, 5), (0, None, 0)]), web_of(2, [(None, 0, 5), (0, 1, 5)])):
            self.assertEqual((most_by(web, 0), rise(web, 0)), (0, ()))
        web = web_of(2, [(None, 0, 2), (0, 1, 2), (1, None, 0)])
        self.assertEqual((most_by(web, 0), rise(web, 0), most_by(web, 2), rise(web, 2)), (0, (), 2, ((2, 0, 1),)))

    def look_at(self, web, door):
        rows, most = self.look_at_form(web, door)
        # The door's own room doesn't matter.
        for room in (0, 1, GREAT):
            self.assertEqual((rise(with_room(web, door, room), door), most_by(with_room(web, door, room), door)), (rows, most))
        steps = [(other, more) for many, other, more in rows for turn in range(many)]
        ahead = None
        for room in range(most + 3):
            calm = calm_ones(with_room(web, door, room))
            told = {tuple((k, stream[k]) for k in doors_of(web)) for stream in calm}
            self.assertEqual(len(told), 1)
            row = dict(told.pop())
            self.assertEqual(row[door], min(room, most))
            if ahead is not None:
                right = dict(ahead)
                if room <= most:
                    other, more = steps[room - 1]
                    right[door] += 1
                    right[other] += more
                self.assertEqual(row, right)
            ahead = row
        return rows

    def test_small_webs(self):
        longest = 0
        for web in list(small_webs()) + list(ringing_webs())[::2] + some(busy_webs(), 60):
            for door in doors_of(web):
                if many_rows(with_room(web, door, 4)) <= 1200:
                    longest = max(longest, len(self.look_at(web, door)))
        self.assertGreater(longest, 2)

    def test_goes_with_change(self):
        for web in some(busy_webs(), 40):
            for door in doors_of(web):
                at = 0
                for many, other, more in rise(web, door):
                    for turn in range(many):
                        self.assertEqual(change(with_room(web, door, at), door), tuple(sorted(((door, 1), (other, more)))))
                        at += 1
                self.assertEqual(change(with_room(web, door, at), door), ())

    def test_turned_about(self):
        for web in list(small_webs()) + some(busy_webs(), 40):
            for door in doors_of(web):
                self.assertEqual((rise(turned(web), door), most_by(turned(web), door)), (rise(web, door), most_by(web, door)))

    def test_no_door(self):
        for web in (LINE, RING, *small_webs(), *great_webs()):
            for road in range(len(web[0])):
                if road not in doors_of(web):
                    for function in (most_by, rise):
                        for turn in (0, 1):
                            with self.assertRaises(NoDoor) as refused:
                                function(web, road)
                            self.assertEqual(refused.exception.road, road)
                            self.assertNotIsInstance(refused.exception, WebError)


class GreatWebs(Case):
    def look_at(self, web, door):
        rows, most = self.look_at_form(web, door)
        row = dict(door_row(with_room(web, door, 0)))
        self.assertEqual(row[door], 0)
        room = 0
        for many, other, more in rows:
            # At the first, the last and a middle unit of the row.
            for step in sorted({1, many // 2, many} - {0}):
                right = dict(row)
                right[door] += step
                right[other] += step * more
                self.assertEqual(dict(door_row(with_room(web, door, room + step))), right)
            room += many
            row = right
        for more_room in sorted({most, min(most + 1, GREAT), GREAT}):
            self.assertEqual(dict(door_row(with_room(web, door, more_room))), row)
        return rows

    def test_great_webs(self):
        longest = 0
        for web in list(great_webs())[::2]:
            for door in doors_of(web)[:7]:
                longest = max(longest, len(self.look_at(web, door)))
        self.assertGreater(longest, 2)

    def test_many_rows(self):
        # One house takes by the door best, and all other in-doors give way to it, one behind the other.
        roads = [(None, 0, GREAT // 40 + k) for k in range(18)] + [(0, None, GREAT // 2), (None, 0, 0)]
        web = web_of(1, roads, {}, {0: (19, *range(18))})
        rows = self.look_at(web, 19)
        self.assertGreater(len(rows), 18)
        self.assertEqual(most_by(web, 19), GREAT // 2)
        self.assertEqual(rows[0][1:], (18, 1))
        self.assertEqual([row[1:] for row in rows[1:]], [(k, -1) for k in range(17, -1, -1)])

    def test_up_to_great(self):
        web = web_of(1, [(None, 0, 0), (0, None, GREAT)])
        self.assertEqual((most_by(web, 0), rise(web, 0)), (GREAT, ((GREAT, 1, 1),)))
        web = web_of(1, [(None, 0, 0), (0, None, GREAT), (0, None, GREAT)])
        self.assertEqual((most_by(web, 0), rise(web, 0)), (GREAT, ((GREAT, 1, 1),)))
        web = web_of(1, [(None, 0, 0), (0, None, GREAT - 1), (0, None, GREAT)])
        self.assertEqual((most_by(web, 0), rise(web, 0)), (GREAT, ((GREAT - 1, 1, 1), (1, 2, 1))))

    def test_rings_on_the_way(self):
        # What comes in sets great rings going.
        dice = dice_of(142)
        looked = 0
        for turn in range(60):
            web = any_web(dice, dice.randint(2, HOUSES), ROADS, GREAT, outside=1, least=GREAT - 9)
            for door in doors_of(web)[:4]:
                looked += len(self.look_at(web, door)) > 0
        self.assertGreater(looked, 60)


if __name__ == "__main__":
    unittest.main()
