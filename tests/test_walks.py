import itertools
import unittest

from tests.made import (all_lots, all_streams, all_walks, any_web, bent, dice_of, is_int, lesser, odd_things,
                        plain_calm, plain_calms, unchanged, web_of)
from unturned.walks import turns


def plain_look(web, stream, thing):
    """turns by [8], whatever it is, written another way."""
    roads, gives, takes = web
    if type(thing) is not tuple or not thing:
        return False
    if not all(is_int(k) and k in range(len(roads)) for k in thing):
        return False
    if sorted(thing) != sorted(set(thing)) or any(stream[k] == roads[k][2] for k in thing):
        return False
    for at in range(1, len(thing)):
        if roads[thing[at]][0] is None or roads[thing[at]][0] != roads[thing[at - 1]][1]:
            return False
    begin, end = roads[thing[0]][0], roads[thing[-1]][1]
    if begin is not None and not [k for k in lesser(gives[begin], thing[0]) if stream[k]]:
        return False
    return end is None or [k for k in lesser(takes[end], thing[-1]) if stream[k]] != []


# In to house 0 by 0; from it by 1 to house 1, and by 2, liked less, to house 2; out of both by 3 and 4.
FORK = web_of(3, [(None, 0, 3), (0, 1, 3), (0, 2, 3), (1, None, 3), (2, None, 3)])
# In by 0 and 1 to houses 0 and 1, on to house 2 by 2 and, liked less, by 3; out by 4.
MEET = web_of(3, [(None, 0, 3), (None, 1, 3), (0, 2, 3), (1, 2, 3), (2, None, 3)])
# House 1 can be come to again: 1 goes there, 2 and 3 go round by house 2, 4 goes out.
ROUND = web_of(3, [(None, 0, 2), (0, 1, 2), (1, 2, 2), (2, 1, 2), (1, None, 2)])


class Turns(unittest.TestCase):
    def look(self, web, stream, thing, right):
        self.assertIs(unchanged(self, turns, web, stream, thing), right, (stream, thing))
        self.assertIs(plain_look(web, stream, thing), right, (stream, thing))

    def test_from_outside_to_outside(self):
        self.look(FORK, (0, 0, 0, 0, 0), (0, 1, 3), True)
        self.look(FORK, (0, 0, 0, 0, 0), (0, 2, 4), True)
        self.look(FORK, (3, 3, 0, 3, 0), (0, 1, 3), False)
        self.look(FORK, (3, 3, 0, 3, 0), (0, 2, 4), False)

    def test_from_a_house_that_gives_by_a_road_that_it_likes_less(self):
        self.look(FORK, (3, 2, 1, 2, 1), (1, 3), True)
        self.look(FORK, (3, 3, 0, 3, 0), (2, 4), False)
        self.look(FORK, (2, 2, 0, 2, 0), (1, 3), False)
        self.look(FORK, (3, 0, 3, 0, 3), (1, 3), True)
        self.look(FORK, (3, 0, 3, 0, 3), (1,), False)
        self.look(FORK, (3, 1, 2, 1, 2), (2, 4), False)

    def test_to_a_house_that_takes_by_a_road_that_it_likes_less(self):
        self.look(MEET, (0, 3, 0, 3, 3), (0, 2), True)
        self.look(MEET, (2, 1, 2, 1, 3), (0, 2), True)
        self.look(MEET, (3, 0, 3, 0, 3), (1, 3), False)
        self.look(MEET, (2, 0, 2, 0, 2), (0, 2), False)
        self.look(MEET, (0, 3, 0, 3, 3), (2,), False)

    def test_one_road_from_house_to_house(self):
        web = web_of(2, [(0, 1, 2), (0, 1, 2), (1, 0, 2)])
        self.look(web, (0, 1, 1), (0,), True)
        self.look(web, (1, 0, 1), (0,), False)
        self.look(web, (1, 0, 1), (1,), False)
        self.look(web_of(2, [(0, 1, 2), (0, 1, 2), (1, 0, 2)], {0: (1, 0)}), (0, 1, 1), (0,), False)
        self.look(web_of(2, [(0, 1, 2), (0, 1, 2), (1, 0, 2)], {}, {1: (1, 0)}), (0, 1, 1), (0,), False)

    def test_a_house_several_times(self):
        self.look(ROUND, (0, 0, 0, 0, 0), (0, 1, 2, 3, 4), True)
        self.look(ROUND, (0, 0, 0, 0, 0), (0, 1, 4), True)
        self.look(ROUND, (0, 0, 2, 2, 0), (0, 1, 2, 3, 4), False)
        # House 1 is where the walk begins, and it comes there again.
        self.look(ROUND, (2, 2, 0, 0, 2), (2, 3), False)
        self.look(ROUND, (1, 1, 0, 0, 1), (2, 3, 4), True)
        self.look(ROUND, (1, 1, 0, 0, 1), (2, 3), False)
        web = (ROUND[0], ROUND[1], ((0,), (3, 1), (2,)))
        self.look(web, (2, 2, 0, 0, 2), (2, 3), True)

    def test_a_road_twice(self):
        self.look(ROUND, (1, 1, 0, 0, 1), (2, 3, 2, 3, 4), False)
        web = web_of(2, [(0, 1, 2), (0, 1, 2), (1, 0, 2)])
        self.look(web, (0, 1, 1), (0,), True)
        self.look(web, (0, 1, 1), (0, 2, 0), False)

    def test_no_walks(self):
        still = (0, 0, 0, 0, 0)
        for thing in [(), [0, 1, 3], (0, 1, 2, 3, 4), (0, 3), (1, 3), (0, 1), (0,), (3,), (3, 0, 1, 3), (0, True, 3),
                      (False, 1, 3), (0, 1, 5), (0, 1, -2), (0, 1, 3, 0, 2, 4), (0, 0, 1, 3), (0, 1, 1, 3), (0, 1, 3, 3),
                      (3, 1, 0), "013", (0, "1", 3), (0, None, 3), (0, (1,), 3), (0, [1], 3), (0, {}, 3), None,
                      (10 ** 29,), tuple(range(100)), {"0": 1}]:
            self.look(FORK, still, thing, False)
        # One road goes in, another out, but outside is no house at which they meet.
        self.look(web_of(2, [(None, 0, 1), (0, None, 1), (None, 1, 1), (1, None, 1)]), (0, 0, 0, 0), (0, 1, 2, 3), False)
        self.look(web_of(2, [(None, 0, 1), (0, None, 1), (None, 1, 1), (1, None, 1)]), (0, 0, 0, 0), (2, 3), True)
        self.look(web_of(1, [(None, 0, 0), (0, None, 1)]), (0, 0), (0, 1), False)
        self.look(web_of(1, [(None, 0, 1), (0, None, 0)]), (0, 0), (0, 1), False)

    def test_whatever_it_is(self):
        for thing in odd_things():
            self.look(ROUND, (1, 1, 0, 0, 1), thing, False)
        for thing in bent((0, 1, 2, 3, 4)):
            self.look(ROUND, (1, 1, 0, 0, 1), thing, plain_look(ROUND, (1, 1, 0, 0, 1), thing))

    def test_all_tuples_of_small_webs(self):
        dice = dice_of(11)
        for turn in range(25):
            web = any_web(dice, dice.randint(1, 3), 4, 2)
            for stream in all_streams(web):
                told = {thing for many in range(5) for thing in itertools.product(range(4), repeat=many)
                        if turns(web, stream, thing)}
                self.assertEqual(told, {walk for walk in all_walks(web, stream) if plain_look(web, stream, walk)})

    def test_either_a_walk_or_a_lot(self):
        dice = dice_of(12)
        for turn in range(30):
            web = any_web(dice, dice.randint(1, 4), dice.randint(2, 6), 2)
            for stream in all_streams(web):
                turned = any(turns(web, stream, walk) for walk in all_walks(web, stream))
                self.assertEqual(turned, not plain_calm(web, stream))
                self.assertEqual(turned, not any(plain_calms(web, stream, lot) for lot in all_lots(web)))


if __name__ == "__main__":
    unittest.main()
