import unittest

from tests.made import RING, all_streams, any_web, dice_of, great_webs, odd_things, small_webs, web_of
from unturned import errors
from unturned.bounds import DEEDS, GREAT, HOUSES, ROADS
from unturned.desks import Desk
from unturned.greatest import lost
from unturned.halls import Hall
from unturned.leading import calm
from unturned.rooms import change, door_row
from unturned.verdicts import verdict

LINE = web_of(2, [(None, 0, 2), (0, 1, 3), (1, None, 1)])
# Two roads in, two out, of house 0; house 1 stands alone.
GATE = web_of(2, [(None, 0, 2), (None, 0, 2), (0, None, 3), (0, None, 2)])
DEED_LINES = ["lay 0 1 5", "shut 0", "widen 0 7", "give 0 3,2", "take 0 1,0", "build", "raze", "back"]
QUESTIONS = ["calm", "lot", "doors", "change 0", "lost", "verdict 2 2 3 1"]


def words_of(numbers):
    return " ".join(str(number) for number in numbers) or "-"


def plain_deed(line):
    """The deed that a line tells, for lines that are deeds' ones."""
    word, *rest = line.split(" ")
    things = [tuple(int(part) for part in one.split(",")) if word in ("give", "take") and at == 1 and one != "-"
              else () if word in ("give", "take") and at == 1 else None if one == "-" else int(one)
              for at, one in enumerate(rest)]
    return (word, *things)


class Case(unittest.TestCase):
    def says(self, desk, line, right):
        """The answer, and that it stands in said behind the line."""
        ahead = desk.said()
        told = desk.say(line)
        self.assertEqual((type(told), told), (str, right), line)
        text = line if isinstance(line, str) else None
        self.assertEqual(desk.said(), (ahead + ((text, right),))[-20:])
        return told

    def no_line(self, hall, line):
        """No line, and nothing is done."""
        ahead = (hall.web(), hall.deeds(), hall.log())
        self.says(Desk(hall), line, "no line")
        self.assertEqual((hall.web(), hall.deeds(), hall.log()), ahead)


class Deeds(Case):
    def test_each_is_done_in_the_very_hall(self):
        hall, other = Hall(GATE), Hall(GATE)
        desk = Desk(hall)
        for line in ["lay 0 1 5", "lay - 0 0", f"lay 1 - {GREAT}", "shut 0", "widen 0 7", f"widen 0 {GREAT}", "give 0 3,2,1", "take 0 4,0",
                     "build", "give 2 -", "take 2 -", "raze", "give 1 5", "take 1 3"]:
            self.says(desk, line, "done")
            deed = plain_deed(line)
            getattr(other, deed[0])(*deed[1:])
            self.assertEqual((hall.web(), hall.deeds()), (other.web(), other.deeds()))
            self.assertEqual(hall.deeds()[-1], deed)
        self.assertEqual(hall.log(), ())
        for turn in range(len(hall)):
            self.says(desk, "back", "done")
            other.back()
            self.assertEqual((hall.web(), hall.deeds()), (other.web(), other.deeds()))
        self.says(desk, "back", "no NothingBack")
        self.assertEqual(hall.web(), GATE)

    def test_outside_and_none(self):
        hall = Hall(GATE)
        desk = Desk(hall)
        self.says(desk, "lay - 1 3", "done")
        self.assertEqual(hall.web()[0][4], (None, 1, 3))
        self.says(desk, "lay 1 - 3", "done")
        self.assertEqual(hall.web()[0][5], (1, None, 3))
        self.says(desk, "give 1 5", "done")
        self.says(desk, "give 1 -", "no BadOrder")
        self.says(desk, "lay - - 3", "no NoEnd")
        self.assertEqual(len(hall), 3)

    def test_refusals(self):
        hall = Hall(GATE)
        desk = Desk(hall)
        for line, name in [("lay 2 1 1", "NoEnd"), ("lay 1 2 1", "NoEnd"), ("lay 0 0 1", "NoEnd"), ("lay - - 1", "NoEnd"),
                           (f"lay 0 1 {GREAT + 1}", "NoRoom"), ("lay 0 1 9999999999999", "NoRoom"), ("lay 9 9 9999999999999", "NoEnd"),
                           ("shut 4", "NoRoad"), ("shut 9999999999999", "NoRoad"), ("widen 4 1", "NoRoad"), ("widen 4 9999999999999", "NoRoad"),
                           (f"widen 0 {GREAT + 1}", "NoRoom"), ("give 2 -", "NoHouse"), ("take 2 0", "NoHouse"), ("give 0 -", "BadOrder"),
                           ("give 0 2", "BadOrder"), ("give 0 2,2", "BadOrder"), ("give 0 2,3,3", "BadOrder"), ("take 0 2,3", "BadOrder"),
                           ("take 1 0", "BadOrder"), ("give 0 9999999999999", "BadOrder"), ("back", "NothingBack"), ("change 4", "NoRoad"),
                           ("verdict 1", "NoStream"), ("verdict 1 1 1 1 1", "NoStream"), ("verdict 3 0 0 0", "NoStream"),
                           ("verdict 1 1 1 0", "NoStream"), ("verdict 9999999999999 0 0 0", "NoStream")]:
            ahead = (hall.web(), hall.deeds(), hall.log())
            self.says(desk, line, f"no {name}")
            self.assertTrue(issubclass(getattr(errors, name), Exception))
            self.assertEqual((hall.web(), hall.deeds(), hall.log()), ahead)
        one = Desk(Hall(web_of(1, [(None, 0, GREAT)])))
        self.says(one, "shut 0", "no Last")
        self.says(one, "raze", "no Last")
        self.says(one, "change 0", "no TooGreat")
        held = Desk(Hall(LINE))
        self.says(held, "raze", "no Held")

    def test_full_and_long(self):
        hall = Hall(web_of(1, [(None, 0, 1)] * ROADS))
        desk = Desk(hall)
        self.says(desk, "lay - 0 1", "no Full")
        for turn in range(HOUSES - 1):
            self.says(desk, "build", "done")
        self.says(desk, "build", "no Full")
        while len(hall) < DEEDS:
            self.says(desk, "widen 0 1", "done")
        for line in ("lay 99 0 1", "shut 99", "widen 0 1", "give 99 -", "take 99 -", "build", "raze"):
            self.says(desk, line, "no Long")
        # What is asked is told still, and what is no line is none.
        self.says(desk, "lost", "0")
        self.says(desk, "build 1", "no line")
        self.says(desk, "back", "done")

    def test_each_refusal_that_deeds_and_questions_have_is_told(self):
        dice = dice_of(161)
        for turn in range(300):
            hall = Hall(any_web(dice, dice.randint(1, 3), dice.randint(1, 5), 3, outside=2))
            word = dice.choice(["lay", "shut", "widen", "give", "take", "build", "raze"])
            many = {"lay": 3, "shut": 1, "widen": 2, "give": 2, "take": 2}.get(word, 0)
            line = " ".join([word] + [dice.choice(["0", "1", "2", "3", "4"] + (["-"] if word == "lay" and at < 2 else []))
                                      for at in range(many)])
            other = hall.twin()
            deed = plain_deed(line)
            try:
                getattr(other, deed[0])(*deed[1:])
                right = "done"
            except (errors.WebError, errors.NoEnd, errors.NoHouse, errors.NoRoad) as refusal:
                right = f"no {type(refusal).__name__}"
            self.says(Desk(hall), line, right)
            self.assertEqual((hall.web(), hall.deeds()), (other.web(), other.deeds()))


class Questions(Case):
    def test_told_ones(self):
        desk = Desk(Hall(LINE))
        for line, right in [("calm", "1 1 1"), ("lot", "0 1"), ("doors", "0:1 2:1"), ("change 0", "-"), ("change 1", "-"),
                            ("change 2", "0+1 2+1"), ("lost", "0"), ("verdict 1 1 1", "lot 0 1"), ("verdict 0 0 0", "walk 0 1 2")]:
            self.says(desk, line, right)
        ring = Desk(Hall(RING))
        for line, right in [("calm", "0 0 0"), ("lot", "-"), ("doors", "-"), ("change 0", "-"), ("lost", "0"), ("verdict 2 2 2", "lot -")]:
            self.says(ring, line, right)
        gate = Desk(Hall(GATE))
        self.says(gate, "change 2", "2+1 3-1")
        self.says(gate, "doors", "0:2 1:2 2:3 3:1")

    def test_lost(self):
        for web in [*small_webs(), *great_webs()]:
            self.assertEqual(Desk(Hall(web)).say("lost"), str(lost(web)))
        self.assertTrue(any(lost(web) > 0 for web in [*small_webs(), *great_webs()]))

    def test_just_what_the_functions_tell(self):
        for web in [*small_webs()][::2] + [*great_webs()][::4]:
            hall = Hall(web)
            desk = Desk(hall)
            stream, lot = calm(web)
            self.says(desk, "calm", " ".join(map(str, stream)))
            self.says(desk, "lot", words_of(lot))
            self.says(desk, "doors", words_of(f"{door}:{bears}" for door, bears in door_row(web)))
            for road in range(len(web[0])):
                if web[0][road][2] == GREAT:
                    self.says(desk, f"change {road}", "no TooGreat")
                else:
                    right = words_of(f"{door}+1" if more == 1 else f"{door}-1" for door, more in change(web, road))
                    self.says(desk, f"change {road}", right)
            for other in [stream, tuple(0 for road in web[0])]:
                word, paper = verdict(web, other)
                self.says(desk, "verdict " + " ".join(map(str, other)), f"{word} {words_of(paper)}")
            self.assertEqual((hall.web(), hall.deeds(), hall.log()), (web, (), ()))

    def test_all_streams_of_small_webs(self):
        for web in [*small_webs()][::3]:
            desk = Desk(Hall(web))
            for stream in all_streams(web):
                word, paper = verdict(web, stream)
                self.says(desk, "verdict " + " ".join(map(str, stream)), f"{word} {words_of(paper)}")

    def test_as_the_hall_is(self):
        hall = Hall(LINE)
        desk = Desk(hall)
        self.says(desk, "doors", "0:1 2:1")
        hall.widen(2, 5)
        self.says(desk, "doors", "0:2 2:2")
        self.says(desk, "lot", "-")
        self.says(desk, "back", "done")
        self.says(desk, "doors", "0:1 2:1")
        self.assertEqual(len(hall), 0)


class NoLines(Case):
    def test_no_texts(self):
        hall = Hall(GATE)
        for thing in [thing for thing in odd_things() if not isinstance(thing, str)] + [["build"], ("build",), b"build", hall]:
            self.no_line(hall, thing)
        desk = Desk(hall)
        desk.say(None)
        desk.say(["build"])
        self.assertEqual(desk.said(), ((None, "no line"), (None, "no line")))

    def test_bent_lines(self):
        hall = Hall(GATE)
        hall.build()
        for line in DEED_LINES + QUESTIONS:
            word, *rest = line.split(" ")
            bends = [line + " ", " " + line, line + "\n", "\n" + line, line + "\t", line.upper(), line.capitalize(), line + "\r",
                     line + " x", line + " -", line.replace(" ", "\t"), word + "  " + " ".join(rest), line + "  ", "no " + line, word[:-1],
                     word + word, line + ",", line + "."]
            if word != "verdict":
                bends += [line + " 0", line + " 1 1"]
            if rest:
                bends += [" ".join([word] + rest[:-1]) if len(rest) == 1 or word != "verdict" else word, word + "," + ",".join(rest),
                          line.replace(" ", "  ", 1), word]
            for at in range(len(rest)):
                ends = word == "lay" and at < 2
                roads = word in ("give", "take") and at == 1
                for odd in ["", "x", "+1", "-1", "01", "00", "1.0", "1e0", "0x1", "True", "None", "1" * 14, "9" * 400, "1_0", ",", "0,",
                            ",0", "0,,1", "0,01", "0,-", "-,0", "--", "1;2", "(1)", "\n", "1\n", "\u00b2", "\u0661"] + (
                               [] if ends or roads else ["-"]) + ([] if roads else ["0,1", "1,2,3"]):
                    bends.append(" ".join([word] + rest[:at] + [odd] + rest[at + 1:]))
            for bend in bends:
                if bend != line:
                    self.no_line(hall, bend)

    def test_other_lines(self):
        hall = Hall(GATE)
        for line in ["", " ", "\n", "no", "no line", "done", "web", "deeds", "twin", "log", "tried", "behind 0", "said", "say", "door_row",
                     "do", "stand", "verdict", "verdict ", "verdict -", "verdict 1,1,1,1", "lot 0", "calm 0", "change", "change -", "change 0 1",
                     "doors 0", "lost 0", "lay", "lay 0", "lay 0 1", "lay 0 1 1 1", "give", "give 0", "take 0", "take 0 0 1", "shut", "shut -",
                     "widen 0", "widen 0 -", "build -", "raze 0", "back 1", "%s", "__init__", "a" * 400, "lay 0 1 1\nbuild", "build\nbuild"]:
            self.no_line(hall, line)
        for thing in odd_things():
            if isinstance(thing, str):
                self.no_line(hall, thing)

    def test_thirteen_figures_are_a_number(self):
        desk = Desk(Hall(GATE))
        self.says(desk, "shut " + "9" * 13, "no NoRoad")
        self.says(desk, "shut " + "9" * 14, "no line")
        self.says(desk, "shut " + "0" * 13, "no line")
        self.says(desk, "widen 0 1000000000000", "done")
        self.says(desk, "widen 0 10000000000000", "no line")


class Within(Case):
    def test_within_a_tell(self):
        hall = Hall(GATE)
        desk = Desk(hall)
        desk.say("build")

        def tell(given):
            ahead = (given.web(), given.deeds(), given.log())
            for line in DEED_LINES + ["lay 99 0 1", "shut 99", "give 9 -"]:
                self.says(desk, line, "no Busy")
            web = given.web()
            stream, lot = calm(web)
            self.says(desk, "calm", words_of(stream))
            self.says(desk, "lot", words_of(lot))
            self.says(desk, "doors", words_of(f"{door}:{bears}" for door, bears in door_row(web)))
            self.says(desk, "lost", str(lost(web)))
            self.says(desk, "verdict " + words_of(stream), f"lot {words_of(lot)}")
            self.says(desk, "change 99", "no NoRoad")
            self.says(desk, "build 1", "no line")
            self.says(desk, None, "no line")
            self.assertEqual((given.web(), given.deeds(), given.log()), ahead)
        hall.tried([("widen", 0, 9), ("widen", 2, 1), ("raze",)], tell=tell)
        self.assertEqual(len(hall), 4)
        self.says(desk, "build", "done")

    def test_two_desks_over_one_hall(self):
        hall = Hall(LINE)
        one, other = Desk(hall), Desk(hall)
        self.says(one, "build", "done")
        self.says(other, "lay 2 - 4", "done")
        self.says(one, "raze", "no Held")
        self.says(other, "back", "done")
        self.says(one, "back", "done")
        self.says(other, "back", "no NothingBack")
        self.assertEqual(one.said(), (("build", "done"), ("raze", "no Held"), ("back", "done")))
        self.assertEqual(other.said(), (("lay 2 - 4", "done"), ("back", "done"), ("back", "no NothingBack")))
        twin = Desk(hall.twin())
        self.says(twin, "build", "done")
        self.assertEqual((len(hall), twin.said()), (0, (("build", "done"),)))

    def test_said(self):
        desk = Desk(Hall(GATE))
        self.assertEqual(desk.said(), ())
        pairs = []
        for turn in range(50):
            line = [f"widen 0 {turn}", "doors", "nothing", None, 7, "back", "shut 99"][turn % 7]
            answer = desk.say(line)
            pairs.append((line if isinstance(line, str) else None, answer))
            self.assertEqual(desk.said(), tuple(pairs[-20:]))
            self.assertEqual(desk.said(), tuple(pairs[-20:]))
        self.assertTrue(type(desk.said()) is tuple and all(type(pair) is tuple for pair in desk.said()))

    def test_the_same_question_twice(self):
        desk = Desk(Hall(LINE))
        for line in ["calm", "lot", "doors", "change 2", "lost", "verdict 0 0 0", "nothing"]:
            self.assertEqual(desk.say(line), desk.say(line))


if __name__ == "__main__":
    unittest.main()
