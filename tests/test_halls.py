import copy
import unittest

from tests.made import (RING, all_streams, any_web, bent, calm_ones, dice_of, great_webs, is_int, odd_things, plain_calm,
                        small_webs, unchanged, web_of)
from unturned import errors
from unturned.bounds import BATCH, DEEDS, GREAT, HOUSES, ROADS
from unturned.errors import (BadOrder, BadWeb, Broken, Busy, Full, Held, Last, Long, NoDeeds, NoEnd, NoHouse, NoMoment, NoRoad,
                             NoRoom, NoStream, NothingBack, TooGreat)
from unturned.halls import Hall
from unturned.leading import calm
from unturned.others import without
from unturned.rooms import change, door_row
from unturned.streams import nothing, streamfault
from unturned.verdicts import verdict, verdict_holds
from unturned.webs import webfault

LINE = web_of(2, [(None, 0, 2), (0, 1, 3), (1, None, 1)])
# Two roads in, two out, of house 0; house 1 stands alone.
GATE = web_of(2, [(None, 0, 2), (None, 0, 2), (0, None, 3), (0, None, 2)])
# What is no number of anything, here: odd things, and truths above all.
ODD = [thing for thing in odd_things() if not is_int(thing) or thing < 0 or thing > 10]
HANDED = {"lay": 3, "shut": 1, "widen": 2, "give": 2, "take": 2, "build": 0, "raze": 0}


def is_number(thing, most):
    return is_int(thing) and 0 <= thing <= most


def plain_deed(web, deed):
    """The web behind the deed, or the name and the fields of its refusal, by [27], written another way."""
    word, *things = deed
    roads, gives, takes = [list(part) for part in web]
    if word == "lay":
        begin, end, room = things
        for thing in (begin, end):
            if thing is not None and not is_number(thing, len(gives) - 1):
                return ("NoEnd", [thing])
        if begin == end:
            return ("NoEnd", [end])
        if not is_number(room, GREAT):
            return ("NoRoom", [room])
        if len(roads) == ROADS:
            return ("Full", [])
        roads.append((begin, end, room))
        for orders, house in ((gives, begin), (takes, end)):
            if house is not None:
                orders[house] += (len(roads) - 1,)
    elif word in ("shut", "widen"):
        if not is_number(things[0], len(roads) - 1):
            return ("NoRoad", [things[0]])
        if word == "widen":
            if not is_number(things[1], GREAT):
                return ("NoRoom", [things[1]])
            roads[things[0]] = roads[things[0]][:2] + (things[1],)
        elif len(roads) == 1:
            return ("Last", [])
        else:
            return without(web, things[0])
    elif word in ("give", "take"):
        house, order = things
        orders = gives if word == "give" else takes
        if not is_number(house, len(gives) - 1):
            return ("NoHouse", [house])
        if type(order) is not tuple or not all(is_int(k) for k in order) or sorted(order) != sorted(orders[house]):
            return ("BadOrder", [])
        orders[house] = order
    elif word == "build":
        if len(gives) == HOUSES:
            return ("Full", [])
        gives.append(())
        takes.append(())
    else:
        if len(gives) == 1:
            return ("Last", [])
        if gives[-1] or takes[-1]:
            return ("Held", [])
        del gives[-1], takes[-1]
    return (tuple(roads), tuple(gives), tuple(takes))


def is_refusal(told):
    return isinstance(told[0], str)


def fields_of(error):
    return list(vars(error).values())


def all_of(hall):
    """All that can be seen of a hall but its log."""
    return (hall.web(), hall.deeds(), len(hall), str(hall), [hall.behind(number) for number in range(len(hall) + 1)],
            hall.door_row(), hall.calm())


def do(hall, deed):
    return getattr(hall, deed[0])(*deed[1:])


def any_deed(dice, web):
    """Some deed, often one that can be done."""
    roads, gives, takes = web
    ends = [None, *range(len(gives)), len(gives), True, -1]
    road = dice.choice([*range(len(roads)), *range(len(roads)), len(roads), False])
    room = dice.choice([0, 1, 2, 3, GREAT, GREAT, GREAT + 1, True])
    house = dice.choice([*range(len(gives)), *range(len(gives)), len(gives), None])
    word = dice.choice(["lay", "lay", "lay", "shut", "widen", "widen", "give", "take", "build", "raze"])
    if word in ("give", "take"):
        order = list((gives if word == "give" else takes)[house] if is_number(house, len(gives) - 1) else [0])
        dice.shuffle(order)
        return (word, house, dice.choice([tuple(order), tuple(order), tuple(order), order, tuple(order)[1:], (0, 0)]))
    things = {"lay": (dice.choice(ends), dice.choice(ends), room), "shut": (road,), "widen": (road, room)}
    return (word, *things.get(word, ()))


class Case(unittest.TestCase):
    def refused(self, error, fields, function, *handed, **named):
        """It is refused with just this error, with the very things handed in as its fields; tells the error."""
        said = repr(handed)
        with self.assertRaises(error) as caught:
            function(*handed, **named)
        self.assertIs(type(caught.exception), error)
        found = fields_of(caught.exception)
        self.assertEqual(len(found), len(fields))
        for one, other in zip(found, fields):
            self.assertTrue(one is other or (type(one) is type(other) and one == other), (one, other))
        self.assertEqual(repr(handed), said)
        return caught.exception

    def left_as_it_was(self, hall, error, fields, deed):
        """A deed refused by itself, and tried, leaves all as it was."""
        ahead = all_of(hall)
        self.refused(error, fields, do, hall, deed)
        self.assertEqual(all_of(hall), ahead)
        with self.assertRaises(Broken) as caught:
            hall.tried([deed])
        self.assertEqual(caught.exception.number, 0)
        self.assertIs(type(caught.exception.__cause__), error)
        self.assertEqual(all_of(hall), ahead)


class Making(Case):
    def test_of_webs(self):
        for web in [*small_webs(), *great_webs()]:
            hall = unchanged(self, lambda thing: Hall(thing).web(), web)
            self.assertEqual(hall, web)
            self.assertEqual((Hall(web).deeds(), len(Hall(web)), Hall(web).log()), ((), 0, ()))

    def test_of_what_is_no_web(self):
        things = odd_things() + [thing for thing in bent(LINE)] + [list(LINE), LINE[:2], LINE + ((),), (LINE,)]
        seen = set()
        for thing in things:
            fault = webfault(thing)
            if fault is None:
                self.assertEqual(Hall(thing).web(), thing)
                continue
            error = self.refused(BadWeb, list(fault), Hall, thing)
            self.assertEqual((error.path, error.word), fault)
            seen.add(error.word)
        self.assertEqual(seen, {"web", "gives", "takes", "roads", "road", "begin", "end", "alike", "room", "order"})

    def test_of_a_hall(self):
        self.refused(BadWeb, [(), "web"], Hall, Hall(LINE))


class Deeds(Case):
    def test_lay(self):
        hall = Hall(GATE)
        self.assertIsNone(hall.lay(0, 1, 7))
        self.assertEqual(hall.web(), (GATE[0] + ((0, 1, 7),), ((2, 3, 4), ()), ((0, 1), (4,))))
        self.assertIsNone(hall.lay(None, 0, 0))
        self.assertIsNone(hall.lay(1, None, GREAT))
        self.assertEqual(hall.web()[0][4:], ((0, 1, 7), (None, 0, 0), (1, None, GREAT)))
        self.assertEqual(hall.web()[1:], (((2, 3, 4), (6,)), ((0, 1, 5), (4,))))
        self.assertEqual(hall.deeds(), (("lay", 0, 1, 7), ("lay", None, 0, 0), ("lay", 1, None, GREAT)))

    def test_laid_roads_are_liked_least(self):
        hall = Hall(web_of(2, [(None, 0, 1), (0, 1, 1), (1, None, 1)]))
        hall.take(0, (0,))
        hall.lay(0, 1, 5)
        self.assertEqual((hall.web()[1][0], hall.web()[2][1]), ((1, 3), (1, 3)))
        hall.give(0, (3, 1))
        hall.lay(0, 1, 5)
        self.assertEqual((hall.web()[1][0], hall.web()[2][1]), ((3, 1, 4), (1, 3, 4)))

    def test_lay_refused(self):
        hall = Hall(GATE)
        for odd in ODD + [True, False, 2, -1, "0", 0 == 0, (0,), [None]]:
            if odd is None:
                continue
            self.left_as_it_was(hall, NoEnd, [odd], ("lay", odd, 1, 1))
            self.left_as_it_was(hall, NoEnd, [odd], ("lay", 0, odd, 1))
            # The begin is told first, then the end, then the room.
            self.left_as_it_was(hall, NoEnd, [odd], ("lay", odd, "other", "room"))
            self.left_as_it_was(hall, NoEnd, [odd], ("lay", None, odd, "room"))
        for odd in ODD + [True, False, -1, GREAT + 1, None, "1"]:
            self.left_as_it_was(hall, NoRoom, [odd], ("lay", 0, 1, odd))
            self.left_as_it_was(hall, NoEnd, [1], ("lay", 1, 1, odd))
        for both in (0, 1, None):
            self.left_as_it_was(hall, NoEnd, [both], ("lay", both, both, 1))

    def test_full_of_roads(self):
        hall = Hall(web_of(2, [(None, 0, 1)] * (ROADS - 1)))
        hall.lay(0, 1, 1)
        self.left_as_it_was(hall, Full, [], ("lay", 0, 1, 1))
        self.left_as_it_was(hall, NoRoom, [True], ("lay", 0, 1, True))
        self.left_as_it_was(hall, NoEnd, [0], ("lay", 0, 0, 1))
        self.left_as_it_was(hall, NoEnd, [2], ("lay", 0, 2, True))
        hall.shut(0)
        hall.lay(0, 1, 1)
        self.assertEqual(len(hall.web()[0]), ROADS)

    def test_shut(self):
        for web in [*small_webs(), *great_webs()]:
            for road in range(len(web[0])):
                hall = Hall(web)
                if len(web[0]) == 1:
                    self.left_as_it_was(hall, Last, [], ("shut", road))
                else:
                    self.assertIsNone(hall.shut(road))
                    self.assertEqual(hall.web(), without(web, road))
        hall = Hall(GATE)
        hall.shut(1)
        self.assertEqual(hall.web(), (((None, 0, 2), (0, None, 3), (0, None, 2)), ((1, 2), ()), ((0,), ())))

    def test_shut_refused(self):
        one = Hall(web_of(1, [(None, 0, 1)]))
        for hall, last in ((Hall(GATE), 3), (one, 0)):
            for odd in ODD + [True, False, -1, last + 1, None, "0"]:
                self.left_as_it_was(hall, NoRoad, [odd], ("shut", odd))
        self.left_as_it_was(one, Last, [], ("shut", 0))

    def test_widen(self):
        hall = Hall(GATE)
        for road, room in [(0, 0), (3, GREAT), (2, 3), (0, 1)]:
            self.assertIsNone(hall.widen(road, room))
            self.assertEqual(hall.web()[0][road][2], room)
        self.assertEqual(hall.web()[1:], GATE[1:])
        self.assertEqual(hall.web()[0], ((None, 0, 1), (None, 0, 2), (0, None, 3), (0, None, GREAT)))
        self.assertEqual(len(hall), 4)

    def test_widen_refused(self):
        hall = Hall(GATE)
        for odd in ODD + [True, False, -1, None, "1", 4, GREAT + 1]:
            self.left_as_it_was(hall, NoRoad, [odd], ("widen", odd, 1))
            self.left_as_it_was(hall, NoRoad, [odd], ("widen", odd, "room"))
            if odd != 4 or not is_int(odd):
                self.left_as_it_was(hall, NoRoom, [odd], ("widen", 1, odd))

    def test_give_and_take(self):
        hall = Hall(GATE)
        self.assertIsNone(hall.give(0, (3, 2)))
        self.assertIsNone(hall.take(0, (1, 0)))
        self.assertIsNone(hall.give(1, ()))
        self.assertIsNone(hall.take(1, ()))
        self.assertEqual(hall.web(), (GATE[0], ((3, 2), ()), ((1, 0), ())))
        self.assertEqual(hall.deeds(), (("give", 0, (3, 2)), ("take", 0, (1, 0)), ("give", 1, ()), ("take", 1, ())))

    def test_give_and_take_refused(self):
        hall = Hall(web_of(2, [(None, 0, 2), (None, 0, 2), (0, None, 3), (0, None, 2), (0, 1, 1), (1, 0, 1)]))
        for word, right, other in [("give", (2, 3, 4), (0, 1, 5)), ("take", (0, 1, 5), (2, 3, 4))]:
            for odd in ODD + [True, False, -1, None, "0", 2]:
                self.left_as_it_was(hall, NoHouse, [odd], (word, odd, right))
                self.left_as_it_was(hall, NoHouse, [odd], (word, odd, "order"))
            for odd in ODD + [None, 0, (), list(right), other, right[:2], right + right[:1], right + (0,), right[:2] * 2,
                              (0, 1, 2, 3, 4, 5), tuple(map(str, right)), (right,), ",".join(map(str, right)),
                              (None,) + right[1:], ([],) + right[1:], right[:2] + (True,)]:
                self.left_as_it_was(hall, BadOrder, [], (word, 0, odd))
        # True is no 1 in an order, nor False a 0.
        self.left_as_it_was(hall, BadOrder, [], ("take", 0, (0, True, 5)))
        self.left_as_it_was(hall, BadOrder, [], ("take", 0, (False, 1, 5)))
        hall.take(0, (5, 1, 0))

    def test_build_and_raze(self):
        hall = Hall(GATE)
        self.assertIsNone(hall.build())
        self.assertEqual(hall.web(), (GATE[0], GATE[1] + ((),), GATE[2] + ((),)))
        hall.lay(2, None, 4)
        self.left_as_it_was(hall, Held, [], ("raze",))
        hall.shut(4)
        hall.lay(None, 2, 4)
        self.left_as_it_was(hall, Held, [], ("raze",))
        hall.shut(4)
        self.assertIsNone(hall.raze())
        self.assertEqual(hall.web(), GATE)
        # House 1 stands alone.
        hall.raze()
        self.assertEqual(hall.web(), (GATE[0], GATE[1][:1], GATE[2][:1]))
        # It is the only one, and held, too.
        self.left_as_it_was(hall, Last, [], ("raze",))

    def test_full_of_houses(self):
        hall = Hall(web_of(1, [(None, 0, 1)]))
        for many in range(2, HOUSES + 1):
            hall.build()
            self.assertEqual(len(hall.web()[1]), many)
        self.left_as_it_was(hall, Full, [], ("build",))
        for many in range(HOUSES - 1, 0, -1):
            hall.raze()
            self.assertEqual(len(hall.web()[2]), many)
        self.left_as_it_was(hall, Last, [], ("raze",))

    def test_each_deed_of_whatever_it_is(self):
        hall = Hall(GATE)
        refusals = set()
        things = odd_things() + [1, 3, (3, 2), (1, 0), None, 0]
        for word in ("shut", "widen", "give", "take"):
            for one in things:
                for other in ([0] if word == "shut" else [*things[::3], things[-1], things[-3], things[-4]]):
                    deed = (word, one, other)[:HANDED[word] + 1]
                    right = plain_deed(hall.web(), deed)
                    if is_refusal(right):
                        self.refused(getattr(errors, right[0]), right[1], do, hall, deed)
                        refusals.add((word, right[0]))
                        self.assertEqual(hall.web(), GATE)
                    else:
                        self.assertIsNone(do(hall, deed))
                        self.assertEqual(hall.web(), right)
                        hall.back()
        self.assertEqual(len(refusals), 7)
        self.assertEqual(hall.web(), GATE)

    def test_long(self):
        hall = Hall(GATE)
        for number in range(DEEDS):
            self.assertEqual(len(hall), number)
            hall.widen(0, number)
        self.assertEqual(len(hall), DEEDS)
        # Ahead of all else: of what could be done, of what couldn't, of odd things.
        for deed in [("widen", 0, 1), ("widen", True, 1), ("lay", None, None, 1), ("shut", 9), ("give", 5, ()), ("take", 0, None),
                     ("build",), ("raze",), ("lay", "a", {}, [])]:
            self.left_as_it_was(hall, Long, [], deed)
        self.assertIsNone(hall.back())
        hall.build()
        self.left_as_it_was(hall, Long, [], ("build",))
        self.assertEqual(len(hall.deeds()), DEEDS)

    def test_back(self):
        hall = Hall(GATE)
        self.refused(NothingBack, [], hall.back)
        deeds = [("lay", 0, 1, 7), ("give", 0, (4, 3, 2)), ("build",), ("shut", 0), ("widen", 0, 5), ("take", 0, (0,)), ("raze",)]
        webs = [GATE]
        for deed in deeds:
            do(hall, deed)
            webs.append(hall.web())
        for many in range(len(deeds), 0, -1):
            self.assertEqual((hall.web(), len(hall), hall.deeds()), (webs[many], many, tuple(deeds[:many])))
            self.assertIsNone(hall.back())
        self.assertEqual((hall.web(), len(hall), hall.deeds()), (GATE, 0, ()))
        for turn in (0, 1):
            self.refused(NothingBack, [], hall.back)
        self.assertEqual(hall.web(), GATE)
        hall.build()
        self.assertEqual(hall.deeds(), (("build",),))

    def test_raze_and_build_taken_back(self):
        # The orders of a house that went are there again.
        hall = Hall(LINE)
        hall.shut(2)
        hall.shut(1)
        hall.raze()
        for turn in range(3):
            hall.back()
        self.assertEqual(hall.web(), LINE)


class Tried(Case):
    def test_all_are_done(self):
        for kind in (list, tuple):
            hall = Hall(GATE)
            deeds = kind([("build",), ("lay", 0, 2, 4), ("widen", 4, 5), ("give", 0, (4, 3, 2)), ("take", 2, (4,)), ("shut", 0)])
            self.assertIsNone(hall.tried(deeds))
            other = Hall(GATE)
            for deed in deeds:
                do(other, deed)
            self.assertEqual(all_of(hall), all_of(other))
            self.assertEqual((hall.deeds(), len(hall)), (tuple(deeds), 6))
            self.assertEqual((hall.log(), other.log()), ((("begin", 6), ("end", 6)), ()))
            # Each stands by itself.
            hall.back()
            self.assertEqual(hall.deeds(), tuple(deeds[:5]))

    def test_of_none(self):
        for none in ([], ()):
            hall = Hall(GATE)
            self.assertIsNone(hall.tried(none))
            self.assertEqual((hall.log(), hall.web(), len(hall)), ((("begin", 0), ("end", 0)), GATE, 0))

    def test_each_refusal_breaks(self):
        cases = [(("lay", 0, 5, 1), NoEnd, [5]), (("lay", 0, 1, True), NoRoom, [True]), (("shut", True), NoRoad, [True]),
                 (("widen", 0, None), NoRoom, [None]), (("give", 7, ()), NoHouse, [7]), (("take", 0, [0, 1]), BadOrder, []),
                 (("raze",), Held, []), (("lay", None, None, 1), NoEnd, [None])]
        for deed, error, fields in cases:
            for ahead in range(4):
                hall = Hall(LINE)
                hall.widen(0, 9)
                seen = all_of(hall)
                deeds = [("widen", 1, k) for k in range(ahead)] + [deed] + [("build",)]
                broken = self.refused(Broken, [ahead], hall.tried, deeds)
                self.assertEqual(broken.number, ahead)
                self.assertIs(type(broken.__cause__), error)
                self.assertEqual(fields_of(broken.__cause__), fields)
                self.assertEqual(all_of(hall), seen)
                self.assertEqual(hall.log(), (("begin", ahead + 2), ("end", 0)))
        one = Hall(web_of(1, [(None, 0, 1)]))
        for deed, error in [(("shut", 0), Last), (("raze",), Last)]:
            self.assertIs(type(self.refused(Broken, [0], one.tried, [deed]).__cause__), error)

    def test_full_and_long_break(self):
        hall = Hall(web_of(2, [(None, 0, 1)] * (ROADS - 1)))
        broken = self.refused(Broken, [1], hall.tried, [("lay", 0, 1, 1)] * 2)
        self.assertIs(type(broken.__cause__), Full)
        self.assertEqual(len(hall.web()[0]), ROADS - 1)
        broken = self.refused(Broken, [6], hall.tried, [("build",)] * 7)
        self.assertIs(type(broken.__cause__), Full)
        for turn in range(3):
            hall.tried([("widen", 0, turn)] * (BATCH - 1))
        self.assertEqual(len(hall), DEEDS - 3)
        ahead = all_of(hall)
        broken = self.refused(Broken, [3], hall.tried, [("widen", 0, 1)] * 4)
        self.assertIs(type(broken.__cause__), Long)
        self.assertEqual(all_of(hall), ahead)
        hall.tried([("widen", 0, 1)] * 3)
        # Long is ahead of what the deed itself would be refused for.
        broken = self.refused(Broken, [0], hall.tried, [("widen", None, 1)])
        self.assertIs(type(broken.__cause__), Long)
        hall.tried(())
        self.assertEqual(len(hall), DEEDS)

    def test_no_deeds(self):
        hall = Hall(GATE)
        hall.build()
        ahead = all_of(hall)
        wrong = [("back",), ("lay",), ("lay", 0, 1), ("lay", 0, 1, 1, 1), ("shut",), ("shut", 0, 0), ("widen", 0), ("give", 0),
                 ("take", 0, (), ()), ("build", 0), ("build", None), ("raze", 1), ("twin",), ("web",), ("tried", []), (), ("",),
                 ["build"], "build", ("Build",), ("build ",), (None,), (True,), (0,), (["build"],), (("build",),), {"build": 0},
                 None, 0, True, ({},), ([],)]
        things = [thing for thing in odd_things() if thing not in ([], (), ((),)) or thing is False]
        for deed in wrong:
            things += [[deed], (deed,), [("build",), deed], (deed, ("build",))]
        things += [[("build",)] * (BATCH + 1), (("widen", 0, 1),) * (BATCH + 1), {"build": ()}, ("build",), "build",
                   [("lay", 0, 1, 1), ("lay", 0, 1, 1), []], ((),), [[]]]
        for thing in things:
            self.refused(NoDeeds, [], hall.tried, thing)
            self.refused(NoDeeds, [], hall.tried, thing, tell=lambda told: self.fail("not called"))
            # Not even what a refused deed stands ahead of.
            self.assertEqual((all_of(hall), hall.log()), (ahead, ()))
        self.refused(NoDeeds, [], hall.tried, [("shut", 99), ("nothing",)])

    def test_at_most_batch(self):
        hall = Hall(GATE)
        hall.tried([("widen", 0, k) for k in range(BATCH)])
        self.assertEqual((len(hall), hall.log()), (BATCH, (("begin", BATCH), ("end", BATCH))))

    def test_things_that_are_handed_to_deeds_may_be_whatever_they_are(self):
        hall = Hall(GATE)
        for odd in odd_things():
            for word, many in HANDED.items():
                if many:
                    deed = (word,) + (odd,) * many
                    if is_refusal(plain_deed(GATE, deed)):
                        self.refused(Broken, [0], hall.tried, (deed,))
        self.assertEqual(hall.web(), GATE)

    def test_tell_is_called_behind_each(self):
        hall = Hall(GATE)
        hall.build()
        told = []

        def tell(given):
            self.assertIs(given, hall)
            told.append((given.web(), given.deeds(), len(given), given.log()))
            return "nothing looks at this"
        deeds = [("lay", 0, 2, 4), ("widen", 4, 5), ("shut", 0)]
        self.assertIsNone(hall.tried(deeds, tell=tell))
        other = Hall(GATE)
        other.build()
        right = []
        for deed in deeds:
            do(other, deed)
            right.append((other.web(), other.deeds(), len(other), (("begin", 3),)))
        self.assertEqual(told, right)
        self.assertEqual(hall.log(), (("begin", 3), ("end", 3)))

    def test_tell_by_its_name_only(self):
        self.assertRaises(TypeError, Hall(GATE).tried, [("build",)], print)

    def test_tell_isnt_called_behind_what_is_refused(self):
        hall = Hall(GATE)
        told = []
        broken = self.refused(Broken, [2], hall.tried, [("build",), ("widen", 0, 1), ("shut", 9), ("build",)],
                              tell=lambda given: told.append(given.deeds()))
        self.assertIs(type(broken.__cause__), NoRoad)
        self.assertEqual(told, [(("build",),), (("build",), ("widen", 0, 1))])
        self.assertEqual((hall.web(), hall.deeds(), hall.log()), (GATE, (), (("begin", 4), ("end", 0))))

    def test_what_tell_raises_goes_through(self):
        raised = [ValueError("x"), KeyError("x"), NoRoad(0), Busy(), Broken(7), Long(), NoDeeds(), KeyboardInterrupt(),
                  StopIteration(), AssertionError(), NothingBack(), errors.WebError("x")]
        for error in raised:
            for at in range(3):
                hall = Hall(GATE)
                hall.widen(0, 3)
                ahead = all_of(hall)

                def tell(given):
                    if len(given) == at + 2:
                        raise error
                with self.assertRaises(type(error)) as caught:
                    hall.tried([("build",), ("widen", 1, 2), ("lay", 0, 1, 1)], tell=tell)
                self.assertIs(caught.exception, error)
                self.assertIsNone(caught.exception.__cause__)
                self.assertEqual((all_of(hall), hall.log()), (ahead, (("begin", 3), ("end", 0))))
                # It isn't busy any longer.
                hall.tried([("build",)])
                hall.back()
                hall.back()
                self.assertEqual(hall.web(), GATE)

    def test_busy_within_tell(self):
        hall = Hall(GATE)
        hall.build()
        seen = []

        def tell(given):
            ahead = (all_of(given), given.log())
            for deed in [("build",), ("raze",), ("lay", 0, 1, 1), ("lay", "a", None, 1), ("shut", 0), ("shut", 99), ("widen", 0, 1),
                         ("widen", None, None), ("give", 0, ()), ("give", True, 0), ("take", 0, (0, 1)), ("take", {}, [])]:
                self.refused(Busy, [], do, given, deed)
            self.refused(Busy, [], given.back)
            for thing in ([("build",)], [], (), None, 7, [("nothing",)], [("build",)] * 21):
                self.refused(Busy, [], given.tried, thing)
                self.refused(Busy, [], given.tried, thing, tell=tell)
            self.assertEqual((all_of(given), given.log()), ahead)
            seen.append(len(given))
        hall.tried([("widen", 0, 7), ("widen", 0, 8)], tell=tell)
        self.assertEqual(seen, [2, 3])
        self.assertEqual((len(hall), hall.log()), (3, (("begin", 2), ("end", 2))))

    def test_busy_is_ahead_of_long(self):
        hall = Hall(GATE)
        for number in range(DEEDS - 1):
            hall.widen(0, number)
        hall.tried([("widen", 0, 1)], tell=lambda given: self.refused(Busy, [], given.build))
        self.assertEqual(len(hall), DEEDS)

    def test_all_may_be_asked_within_tell(self):
        hall = Hall(LINE)

        def tell(given):
            web = given.web()
            self.assertEqual((given.calm(), given.door_row()), (calm(web), door_row(web)))
            self.assertEqual([given.change(road) for road in range(3)], [change(web, road) for road in range(3)])
            self.assertEqual(given.verdict((0, 0, 0)), verdict(web, (0, 0, 0)))
            self.assertEqual(given.behind(0), LINE)
            self.assertEqual(given.behind(len(given)), web)
            self.assertEqual((given == Hall(web), given == given.twin()), (True, True))
            self.assertEqual(str(given), f"2 houses, 3 roads, {len(given)} deeds")
            self.refused(NoRoad, [3], given.change, 3)
            self.refused(NoMoment, [9], given.behind, 9)
            self.refused(NoStream, [("form",)], given.verdict, ())
            self.assertEqual(given.log(), (("begin", 2),))
        hall.tried([("widen", 0, 5), ("widen", 2, 4)], tell=tell)

    def test_other_halls_are_not_busy(self):
        hall, other = Hall(GATE), Hall(GATE)

        def tell(given):
            other.tried([("build",)], tell=lambda second: self.refused(Busy, [], given.build))
            twin = given.twin()
            twin.back()
            twin.tried([("widen", 0, 9), ("raze",)])
            self.assertEqual(twin.log(), (("begin", 2), ("end", 2)))
        hall.tried([("build",), ("raze",)], tell=tell)
        self.assertEqual((hall.deeds(), len(other)), ((("build",), ("raze",)), 2))

    def test_deeds_are_taken_as_they_are_when_it_is_called(self):
        for change_it in (lambda deeds: deeds.append(("shut", 99)), lambda deeds: deeds.clear(), lambda deeds: deeds.pop(),
                          lambda deeds: deeds.insert(0, ("shut", 99)), lambda deeds: deeds.__setitem__(1, None)):
            hall = Hall(GATE)
            deeds = [("build",), ("widen", 0, 8), ("lay", 2, 0, 1)]
            kept = tuple(deeds)
            hall.tried(deeds, tell=lambda given: change_it(deeds) if len(given) == 1 else None)
            self.assertEqual((hall.deeds(), hall.log()), (kept, (("begin", 3), ("end", 3))))
            deeds.clear()
            self.assertEqual(hall.deeds(), kept)

    def test_handed_in_things_are_not_changed(self):
        hall = Hall(GATE)
        deeds = [("build",), ("give", 0, (3, 2)), ("take", 0, [0, 1])]
        kept = copy.deepcopy(deeds)
        self.refused(Broken, [2], hall.tried, deeds)
        self.assertEqual(deeds, kept)
        deeds[2][2].append(3)
        self.assertEqual(hall.web(), GATE)

    def test_log(self):
        hall = Hall(GATE)
        rows = []
        for turn in range(12):
            deeds = [("widen", 0, k) for k in range(turn % 3)] + [("shut", 77)] * (turn % 2)
            try:
                hall.tried(deeds)
            except Broken:
                pass
            rows += [("begin", len(deeds)), ("end", 0 if turn % 2 else len(deeds))]
            self.assertEqual(unchanged(self, hall.log), tuple(rows[-10:]))
            for refused in (None, [("nothing",)]):
                self.refused(NoDeeds, [], hall.tried, refused)
            # Neither deeds by themselves nor taking back are told there.
            hall.build()
            hall.back()
            self.assertEqual(hall.log(), tuple(rows[-10:]))

        def tell(given):
            self.assertEqual(given.log(), tuple((rows + [("begin", 1)])[-10:]))
            self.refused(Busy, [], given.tried, [])
            self.assertEqual(given.log(), tuple((rows + [("begin", 1)])[-10:]))
        hall.tried([("build",)], tell=tell)
        self.assertEqual(hall.log(), tuple((rows + [("begin", 1), ("end", 1)])[-10:]))
        self.assertTrue(all(type(row) is tuple for row in hall.log()))


class Asked(Case):
    def test_just_what_the_functions_tell(self):
        for web in [*small_webs()][::4] + [*great_webs()][::6]:
            hall = Hall(web)
            ahead = (hall.web(), hall.deeds(), hall.log(), len(hall))
            self.assertEqual(unchanged(self, hall.calm), calm(web))
            self.assertEqual(unchanged(self, hall.door_row), door_row(web))
            for road in range(len(web[0])):
                if web[0][road][2] == GREAT:
                    self.refused(TooGreat, [], hall.change, road)
                else:
                    self.assertEqual(hall.change(road), change(web, road))
            for stream in (calm(web)[0], nothing(web)):
                self.assertEqual(unchanged(self, hall.verdict, stream), verdict(web, stream))
            self.assertEqual((hall.web(), hall.deeds(), hall.log(), len(hall)), ahead)

    def test_of_the_web_as_it_is(self):
        hall = Hall(LINE)
        self.assertEqual((hall.door_row(), hall.change(2)), (((0, 1), (2, 1)), ((0, 1), (2, 1))))
        hall.widen(2, 5)
        self.assertEqual((hall.door_row(), hall.change(2), hall.change(0)), (((0, 2), (2, 2)), (), ((0, 1), (2, 1))))
        self.assertEqual(hall.calm(), ((2, 2, 2), ()))
        self.assertEqual(hall.verdict((1, 1, 1)), ("walk", (0, 1, 2)))
        hall.back()
        self.assertEqual(hall.verdict((1, 1, 1)), ("lot", (0, 1)))

    def test_change_refused(self):
        hall = Hall(web_of(2, [(None, 0, GREAT), (0, 1, GREAT), (1, None, GREAT)]))
        for odd in ODD + [True, False, -1, 3, None, "0", [0], (0,)]:
            self.refused(NoRoad, [odd], hall.change, odd)
        for road in range(3):
            self.refused(TooGreat, [], hall.change, road)

    def test_verdict_refused(self):
        hall = Hall(LINE)
        for thing in odd_things() + list(bent((1, 1, 1))) + [(3, 0, 0), (2, 2, 2), (1, 1, 0), (0, 1, 1), [1, 1, 1]]:
            fault = streamfault(LINE, thing)
            if fault is None:
                self.assertEqual(hall.verdict(thing), verdict(LINE, thing))
            else:
                error = self.refused(NoStream, [fault], hall.verdict, thing)
                self.assertEqual(error.fault, fault)
        hall.shut(1)
        self.refused(NoStream, [("form",)], hall.verdict, (1, 1, 1))
        self.refused(NoStream, [("house", 0)], hall.verdict, (1, 1))
        self.refused(NoStream, [("room", 1)], hall.verdict, (0, 5))

    def test_behind(self):
        hall = Hall(GATE)
        webs = [GATE]
        for deed in [("build",), ("lay", 0, 2, 1), ("shut", 0), ("give", 0, (2, 3, 1))]:
            do(hall, deed)
            webs.append(hall.web())
        self.assertEqual([unchanged(self, hall.behind, number) for number in range(5)], webs)
        for odd in ODD + [True, False, -1, 5, None, "0", (0,), [1]]:
            self.refused(NoMoment, [odd], hall.behind, odd)
        hall.back()
        self.assertEqual([hall.behind(number) for number in range(4)], webs[:4])
        self.refused(NoMoment, [4], hall.behind, 4)
        self.refused(NoMoment, [1], Hall(GATE).behind, 1)
        self.assertEqual(Hall(GATE).behind(0), GATE)

    def test_twin(self):
        hall = Hall(GATE)
        hall.tried([("build",), ("lay", 0, 2, 1)])
        hall.widen(0, 9)
        twin = hall.twin()
        self.assertIsInstance(twin, Hall)
        self.assertIsNot(twin, hall)
        self.assertEqual((all_of(twin), twin.log()), (all_of(hall), ()))
        self.assertEqual(hall.log(), (("begin", 2), ("end", 2)))
        kept = all_of(hall)
        twin.back()
        twin.shut(0)
        twin.tried([("build",)])
        self.assertEqual((all_of(hall), hall.log()), (kept, (("begin", 2), ("end", 2))))
        kept = all_of(twin)
        for turn in range(3):
            hall.back()
        hall.lay(1, 0, 3)
        self.assertEqual((all_of(twin), twin.log()), (kept, (("begin", 1), ("end", 1))))
        for turn in range(4):
            twin.back()
        self.assertEqual(twin.web(), GATE)
        self.refused(NothingBack, [], twin.back)

    def test_twin_within_tell(self):
        hall = Hall(GATE)
        hall.widen(0, 1)
        twins = []

        def tell(given):
            twin = given.twin()
            self.assertEqual((all_of(twin), twin.log()), (all_of(given), ()))
            twin.build()
            twin.back()
            twin.back()
            twins.append(twin)
            if len(given) == 3:
                raise KeyError("x")
        with self.assertRaises(KeyError):
            hall.tried([("widen", 0, 2), ("widen", 0, 3), ("widen", 0, 4)], tell=tell)
        self.assertEqual([twin.web()[0][0][2] for twin in twins], [1, 2])
        self.assertEqual([twin.deeds() for twin in twins], [(("widen", 0, 1),), (("widen", 0, 1), ("widen", 0, 2))])
        self.assertEqual(hall.deeds(), (("widen", 0, 1),))

    def test_equality(self):
        one, other = Hall(GATE), Hall(GATE)
        self.assertTrue(one == other and not one != other)
        one.widen(0, 9)
        self.assertTrue(one != other and not one == other)
        other.widen(0, 7)
        other.widen(0, 9)
        # Their webs count, not their deeds.
        self.assertTrue(one == other and not one != other)
        self.assertIs(one == other, True)
        self.assertTrue(one == one.twin())
        for thing in odd_things() + [GATE, one.web(), str(one), len(one), 0, None]:
            self.assertIs(one == thing, False)
            self.assertIs(thing == one, False)
            self.assertIs(one != thing, True)
        self.assertFalse(Hall(GATE) == Hall(LINE))

    def test_len_and_str(self):
        hall = Hall(web_of(1, [(None, 0, 1)]))
        self.assertEqual((len(hall), str(hall)), (0, "1 houses, 1 roads, 0 deeds"))
        hall.build()
        self.assertEqual((len(hall), str(hall)), (1, "2 houses, 1 roads, 1 deeds"))
        hall.tried([("build",), ("lay", 0, 1, 3)])
        self.assertEqual((len(hall), str(hall)), (3, "3 houses, 2 roads, 3 deeds"))
        hall.back()
        self.assertEqual((len(hall), str(hall)), (2, "3 houses, 1 roads, 2 deeds"))

    def test_what_is_asked_changes_nothing(self):
        hall = Hall(LINE)
        hall.tried([("build",), ("widen", 0, 5)])
        ahead = (all_of(hall), hall.log())
        for function, handed in [(hall.web, ()), (hall.deeds, ()), (hall.calm, ()), (hall.door_row, ()), (hall.change, (0,)),
                                 (hall.verdict, ((1, 1, 1),)), (hall.behind, (1,)), (hall.log, ()), (hall.__len__, ()),
                                 (hall.__str__, ())]:
            unchanged(self, function, *handed)
            self.assertEqual((all_of(hall), hall.log()), ahead)
        hall.twin().back()
        self.assertEqual((all_of(hall), hall.log()), ahead)


class Histories(Case):
    def step(self, dice, hall, model):
        """One step of a history; model is the list of (deed, web) that stand, the first web behind None."""
        kind = dice.choice(["deed", "deed", "deed", "back", "tried"])
        if kind == "back":
            if len(model) == 1:
                self.refused(NothingBack, [], hall.back)
            else:
                hall.back()
                model.pop()
            return
        web = model[-1][1]
        rows = []
        for turn in range(1 if kind == "deed" else dice.randint(0, 4)):
            deed = any_deed(dice, rows[-1][1] if rows and not is_refusal(rows[-1][1]) else web)
            rows.append((deed, plain_deed(rows[-1][1] if rows else web, deed)))
            if is_refusal(rows[-1][1]):
                break
        last = rows[-1][1] if rows else None
        if kind == "deed" and is_refusal(last):
            self.refused(getattr(errors, last[0]), last[1], do, hall, rows[0][0])
        elif kind == "deed":
            self.assertIsNone(do(hall, rows[0][0]))
            model += rows
        elif rows and is_refusal(last):
            broken = self.refused(Broken, [len(rows) - 1], hall.tried, [deed for deed, then in rows] + [("build",)])
            self.assertIs(type(broken.__cause__), getattr(errors, last[0]))
        else:
            hall.tried(tuple(deed for deed, then in rows))
            model += rows

    def test_histories(self):
        dice = dice_of(121)
        most = 0
        for turn in range(120):
            first = any_web(dice, dice.randint(1, 3), dice.randint(1, 6), 3, outside=2)
            hall = Hall(first)
            model = [(None, first)]
            for step in range(dice.randint(1, 20)):
                self.step(dice, hall, model)
                self.assertEqual(hall.web(), model[-1][1])
                self.assertIsNone(webfault(hall.web()))
                self.assertEqual(hall.deeds(), tuple(deed for deed, web in model[1:]))
                self.assertEqual([hall.behind(k) for k in range(len(hall) + 1)], [web for deed, web in model])
                again = Hall(first)
                for deed in hall.deeds():
                    do(again, deed)
                self.assertEqual(all_of(again), all_of(hall))
                self.assertTrue(again == hall)
                most = max(most, len(hall))
            while len(hall):
                hall.back()
                model.pop()
                self.assertEqual((hall.web(), hall.deeds()), (model[-1][1], tuple(deed for deed, web in model[1:])))
            self.assertEqual(hall.web(), first)
            self.refused(NothingBack, [], hall.back)
        self.assertGreater(most, 12)

    def test_calm_at_each_moment(self):
        dice = dice_of(122)
        looked = 0
        for turn in range(40):
            hall = Hall(any_web(dice, dice.randint(1, 3), dice.randint(1, 4), 2, outside=2))
            for step in range(8):
                deed = any_deed(dice, hall.web())
                if GREAT in deed:
                    deed = (*deed[:-1], 2)
                if not is_refusal(plain_deed(hall.web(), deed)):
                    do(hall, deed)
                web = hall.web()
                stream, lot = hall.calm()
                self.assertIsNone(streamfault(web, stream))
                self.assertTrue(plain_calm(web, stream))
                self.assertTrue(verdict_holds(web, stream, hall.verdict(stream)))
                self.assertEqual(hall.verdict(stream), ("lot", lot))
                doors = [k for k, road in enumerate(web[0]) if None in road[:2]]
                self.assertEqual(hall.door_row(), tuple((k, stream[k]) for k in doors))
                if len(web[0]) <= 6 and all(road[2] <= 3 for road in web[0]):
                    looked += 1
                    for other in calm_ones(web):
                        self.assertEqual(hall.door_row(), tuple((k, other[k]) for k in doors))
                    for other in list(all_streams(web))[:20]:
                        self.assertEqual(hall.verdict(other)[0] == "lot", plain_calm(web, other))
        self.assertGreater(looked, 100)


if __name__ == "__main__":
    unittest.main()
