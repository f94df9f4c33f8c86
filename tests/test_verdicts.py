import itertools
import unittest

from tests.made import (RING, all_lots, all_streams, all_walks, any_web, bent, dice_of, great_webs, is_int, odd_things,
                        plain_calm, plain_calms, plain_turns, ringing_webs, small_webs, unchanged, web_of)
from unturned.bounds import GREAT, HOUSES
from unturned.greatest import greatest
from unturned.leading import calm, last_calm
from unturned.lots import calms, is_calm, least_lot
from unturned.streams import nothing
from unturned.verdicts import verdict, verdict_holds
from unturned.walks import turns

LINE = web_of(2, [(None, 0, 2), (0, 1, 3), (1, None, 1)])
# In to house 0 by 0; from it by 1 to house 1, and by 2, liked less, to house 2; out of both by 3 and 4.
FORK = web_of(3, [(None, 0, 3), (0, 1, 3), (0, 2, 3), (1, None, 3), (2, None, 3)])


def plain_look(web, stream, thing):
    """verdict_holds by [10], whatever it is, written another way."""
    if type(thing) is not tuple or len(thing) != 2 or type(thing[0]) is not str or type(thing[1]) is not tuple:
        return False
    word, paper = thing
    if not all(is_int(number) for number in paper):
        return False
    if word == "lot":
        return paper in set(all_lots(web)) and plain_calms(web, stream, paper)
    return word == "walk" and paper in set(all_walks(web, stream)) and plain_turns(web, stream, paper)


class Verdict(unittest.TestCase):
    def test_told_ones(self):
        self.assertEqual(unchanged(self, verdict, LINE, (1, 1, 1)), ("lot", (0, 1)))
        self.assertEqual(unchanged(self, verdict, LINE, (0, 0, 0)), ("walk", (0, 1, 2)))
        self.assertEqual(verdict(RING, (2, 2, 2)), ("lot", ()))
        self.assertEqual(verdict(RING, (0, 0, 0)), ("lot", ()))
        self.assertEqual(verdict(FORK, (3, 3, 0, 3, 0)), ("lot", ()))
        # House 0 gives by 2, which it likes less than 1.
        self.assertEqual(verdict(FORK, (3, 2, 1, 2, 1)), ("walk", (1, 3)))
        self.assertEqual(verdict(FORK, (2, 2, 0, 2, 0))[0], "walk")
        # House 2 takes by 1, which it likes less than 0.
        meet = web_of(3, [(0, 2, 3), (1, 2, 3), (None, 0, 3), (None, 1, 3), (2, None, 3)])
        self.assertEqual(verdict(meet, (2, 1, 2, 1, 3)), ("walk", (2, 0)))
        # A road of which both ends would gladly have more.
        both = web_of(2, [(None, 0, 1), (0, 1, 1), (0, 1, 1), (1, None, 1)])
        self.assertEqual(verdict(both, (1, 0, 1, 1)), ("walk", (1,)))

    def test_a_walk_that_comes_to_houses_several_times(self):
        # From house 0 round to it again: it gives by 1, liked less than 0, and takes by 3, liked less than 2.
        web = web_of(2, [(0, 1, 1), (0, None, 1), (1, 0, 1), (None, 0, 1)])
        self.assertEqual(verdict(web, (0, 1, 0, 1)), ("walk", (0, 2)))

    def test_long_walks(self):
        for houses in range(1, HOUSES + 1):
            roads = [(None, 0, 1)] + [(h, h + 1, 1) for h in range(houses - 1)] + [(houses - 1, None, 1)]
            web = web_of(houses, roads)
            self.assertEqual(verdict(web, nothing(web)), ("walk", tuple(range(houses + 1))))
            other = web_of(houses, roads[::-1])
            self.assertEqual(verdict(other, nothing(other)), ("walk", tuple(range(houses, -1, -1))))
            self.assertEqual(verdict(web, (1,) * (houses + 1)), ("lot", ()))

    def look_at(self, web, stream):
        told = verdict(web, stream)
        self.assertEqual([type(told), len(told), type(told[1])], [tuple, 2, tuple])
        self.assertTrue(all(is_int(number) for number in told[1]))
        self.assertIs(verdict_holds(web, stream, told), True)
        self.assertEqual(verdict(web, stream), told)
        if told[0] == "lot":
            self.assertEqual(told[1], least_lot(web, stream))
            self.assertIs(calms(web, stream, told[1]), True)
            self.assertIs(is_calm(web, stream), True)
        else:
            self.assertEqual(told[0], "walk")
            self.assertIs(turns(web, stream, told[1]), True)
            self.assertIs(is_calm(web, stream), False)
        return told

    def test_small_webs(self):
        seen = {}
        for web in [*small_webs(), *ringing_webs()]:
            for stream in all_streams(web):
                word, paper = self.look_at(web, stream)
                self.assertEqual(word == "lot", plain_calm(web, stream))
                self.assertIs(plain_look(web, stream, (word, paper)), True)
                seen[word, len(paper)] = True
        self.assertLessEqual({("lot", 0), ("lot", 1), ("lot", 2), ("walk", 1), ("walk", 2), ("walk", 3)}, set(seen))

    def test_great_webs(self):
        words = set()
        for web in great_webs():
            self.assertEqual(verdict(web, calm(web)[0]), ("lot", calm(web)[1]))
            for stream in (last_calm(web)[0], greatest(web), nothing(web)):
                words.add(self.look_at(web, stream)[0])
        self.assertEqual(words, {"lot", "walk"})


class VerdictHolds(unittest.TestCase):
    def look(self, web, stream, thing, right):
        self.assertIs(unchanged(self, verdict_holds, web, stream, thing), right, (stream, thing))
        self.assertIs(plain_look(web, stream, thing), right, (stream, thing))

    def test_any_lot_and_any_walk(self):
        for lot in all_lots(RING):
            self.look(RING, (2, 2, 2), ("lot", lot), lot in ((), (2,), (1, 2), (0, 1, 2)))
            self.look(RING, (2, 2, 2), ("walk", lot), False)
        stream = (2, 2, 0, 2, 0)
        for walk, right in [((0, 1, 3), True), ((0, 2, 4), True), ((0, 1), False), ((1, 3), False), ((0, 2, 3), False), ((), False)]:
            self.look(FORK, stream, ("walk", walk), right)
            self.look(FORK, stream, ("lot", walk), False)

    def test_exchanged_more_and_fewer(self):
        for web, stream, word, paper in [(LINE, (1, 1, 1), "lot", (0, 1)), (LINE, (0, 0, 0), "walk", (0, 1, 2))]:
            self.look(web, stream, (word, paper), True)
            other = {"lot": "walk", "walk": "lot"}[word]
            for thing in [(other, paper), (paper, word), (word, paper, paper), (word, paper, None), (word,), (paper,), (),
                          [word, paper], (word, list(paper)), (word, paper + (0,)), (word, paper[1:]), (word, paper[:-1]),
                          (word, paper[::-1]), (word, ((),)), (word, (paper,)), (word, None), (word, word), word, paper,
                          ((word, paper),), {word: paper}, (word.upper(), paper), (word + " ", paper), (" " + word, paper),
                          (word[:-1], paper), ("", paper), (None, paper), (True, paper), ((word,), paper), ([word], paper),
                          (word, tuple(bool(n) if n < 2 else n for n in paper)), (word, (False,) + paper[1:]),
                          (word, paper[:1] + (True,) + paper[2:]), (word, tuple(str(n) for n in paper)), (word, "01"),
                          (word, {}), (word, 0), (word, paper, word), ({}, paper), (word, (0, 10 ** 29))]:
                self.look(web, stream, thing, False)

    def test_whatever_it_is(self):
        for web, stream in [(LINE, (1, 1, 1)), (LINE, (0, 0, 0)), (RING, (2, 2, 2)), (FORK, (3, 2, 1, 2, 1)),
                            (FORK, (3, 3, 0, 3, 0))]:
            told = verdict(web, stream)
            for thing in odd_things() + list(bent(told)) + [(told[0], odd) for odd in odd_things()]:
                self.look(web, stream, thing, plain_look(web, stream, thing))

    def test_just_one_kind_is_let_by(self):
        # All lots and all rows of roads gone through: never both kinds, never neither.
        dice = dice_of(111)
        webs = [RING, LINE]
        while len(webs) < 40:
            web = any_web(dice, dice.randint(1, 3), dice.randint(2, 5), 2, outside=dice.randint(1, 2))
            webs.append(web)
        seen = set()
        for web in webs:
            roads = range(len(web[0]))
            walks = [row for many in range(1, len(roads) + 1) for row in itertools.permutations(roads, many)]
            for stream in all_streams(web):
                lots = [lot for lot in all_lots(web) if verdict_holds(web, stream, ("lot", lot))]
                turning = [walk for walk in walks if verdict_holds(web, stream, ("walk", walk))]
                self.assertNotEqual(bool(lots), bool(turning), (web, stream))
                self.assertEqual(lots, [lot for lot in all_lots(web) if plain_calms(web, stream, lot)])
                self.assertEqual(set(turning), {w for w in all_walks(web, stream) if plain_turns(web, stream, w)})
                seen.add((len(lots) > 1, len(turning) > 1))
        self.assertEqual(len(seen), 3)

    def test_great_ones(self):
        web = web_of(HOUSES, [(k % 8, (k + 1) % 8, GREAT) for k in range(8)])
        for lot in all_lots(web):
            self.assertIs(verdict_holds(web, (GREAT - 1,) * 8, ("lot", lot)), len(lot) in (0, 8))
            self.assertIs(verdict_holds(web, (GREAT,) * 8, ("lot", lot)), True)


if __name__ == "__main__":
    unittest.main()
