import itertools
import unittest

from tests.made import (AGAINST, RING, all_streams, any_web, bent, dice_of, great_webs, is_int, odd_things, ringing_webs,
                        small_webs, swaps, unchanged, web_of)
from unturned.bounds import GREAT, HOUSES, ROADS
from unturned.errors import NoText
from unturned.leading import calm
from unturned.streams import nothing, streamfault
from unturned.texts import read_stream, read_web, stream_text, web_text
from unturned.webs import webfault

LINE = web_of(2, [(None, 0, 2), (0, 1, 3), (1, None, 1)])
LINE_TEXT = "houses 2\nroad - 0 2\nroad 0 1 3\nroad 1 - 1\ngive 1\ngive 2\ntake 0\ntake 1\n"
# House 1 has no roads.
ALONE = web_of(2, [(None, 0, 2), (0, None, 3), (0, None, GREAT)], {0: (2, 1)})
ALONE_TEXT = f"houses 2\nroad - 0 2\nroad 0 - 3\nroad 0 - {GREAT}\ngive 2,1\ngive -\ntake 0\ntake -\n"


def bound_webs():
    """Webs at the bounds."""
    yield web_of(1, [(None, 0, 0)])
    yield web_of(HOUSES, [(None, 0, GREAT)])
    yield web_of(HOUSES, [(k % 8, (k + 1) % 8, GREAT) for k in range(ROADS)])
    yield web_of(1, [(None, 0, GREAT)] * 10 + [(0, None, 0)] * 10, {0: tuple(range(19, 9, -1))}, {0: tuple(range(9, -1, -1))})


def all_webs():
    return [LINE, ALONE, AGAINST, swaps(GREAT), *small_webs(), *ringing_webs(), *great_webs(), *bound_webs()]


def figures(word, least, most):
    """The number of this word, if it is one's figures, from least to most; else None."""
    for digit in word:
        if digit not in "0123456789":
            return None
    if word == "" or len(word) > 30 or str(int(word)) != word:
        return None
    return int(word) if least <= int(word) <= most else None


def begins_a_web(lines):
    """Whether some web's text begins with these lines, each with its line end, by [30], line by line."""
    if not lines:
        return True
    first, *rest = lines
    if first not in [f"houses {many}" for many in range(1, HOUSES + 1)]:
        return False
    houses = int(first[7:])
    roads = []
    while rest and rest[0].startswith("road "):
        words = rest.pop(0).split(" ")
        ends = [None if word == "-" else figures(word, 0, houses - 1) for word in words[1:3]]
        if len(words) != 4 or len(roads) == ROADS or ends[0] == ends[1] or figures(words[3], 0, GREAT) is None:
            return False
        if any(end is None and word != "-" for end, word in zip(ends, words[1:])):
            return False
        roads.append(ends)
    if rest and not roads:
        return False
    for place, word in ((0, "give"), (1, "take")):
        for house in range(houses):
            if rest:
                own = [str(k) for k, ends in enumerate(roads) if ends[place] == house]
                line = rest.pop(0)
                if line.count(",") != max(len(own) - 1, 0):
                    return False
                if line != f"{word} -" and not (own and line.startswith(f"{word} ")):
                    return False
                if sorted(line[5:].split(",")) != sorted(own or ["-"]):
                    return False
    return not rest


def plain_line(text):
    """The number of NoText for a text that is no web's, by [30]."""
    lines = text.split("\n")
    if lines[-1] == "":
        lines.pop()
    for number in range(len(lines)):
        if not begins_a_web(lines[:number + 1]):
            return number
    return len(lines)


def mended(text):
    """Texts that are bent at one place."""
    lines = text.split("\n")[:-1]
    for at in range(len(lines)):
        yield "".join(line + "\n" for line in lines[:at])
        yield "".join(line + "\n" for line in lines[:at]) + lines[at]
        yield "".join(line + "\n" for line in lines[:at] + lines[at + 1:])
        yield "".join(line + "\n" for line in lines[:at + 1] + lines[at:])
        for other in (lines[at] + " ", " " + lines[at], lines[at].replace(" ", "  ", 1), lines[at] + "\r", lines[at].upper(),
                      "", " ", lines[at].replace(" ", ""), lines[at].replace(" ", "\t", 1), lines[at].replace(" ", " 0", 1),
                      lines[at].replace(" ", " +", 1), lines[at].replace(" ", " -", 1), lines[at] + "0", lines[at] + ",",
                      lines[at] + "\n", "\n" + lines[at], lines[at] + " 0", lines[at] + ",0", lines[at][:-1], lines[at][1:],
                      lines[at].replace(",", ", "), lines[at].replace(",", " "), lines[at].replace(",", ",,"), "houses 1",
                      "road - 0 1", "road 0 - 1", "give -", "take -", "give 0", "take 0", lines[at] + "x", "give", "take", "road",
                      "houses", "give ", "road - - 1", lines[at].replace("0", "00", 1), lines[at].replace("1", "01", 1),
                      lines[at].replace("-", "None"), lines[at].replace("-", "", 1), lines[at] + "9" * 14):
            yield "".join(line + "\n" for line in lines[:at] + [other] + lines[at + 1:])
    for k in range(len(text)):
        yield text[:k] + text[k + 1:]
        yield text[:k]
        yield text[:k] + text[k] * 2 + text[k + 1:]
    for more in ("\n", " ", "x", "take -\n", "take -", "houses 1\n", "\n\n", "give -\n", "0"):
        yield text + more


class Case(unittest.TestCase):
    def refused(self, line, function, *handed):
        said = repr(handed)
        with self.assertRaises(NoText) as caught:
            function(*handed)
        self.assertEqual(repr(handed), said)
        found = caught.exception.line
        self.assertEqual((type(found), found), (type(line), line), handed)


class Written(Case):
    def test_told_ones(self):
        self.assertEqual(unchanged(self, web_text, LINE), LINE_TEXT)
        self.assertEqual(unchanged(self, web_text, ALONE), ALONE_TEXT)
        self.assertEqual(web_text(RING), "houses 3\nroad 0 1 4\nroad 1 2 3\nroad 2 0 2\n"
                                         "give 0\ngive 1\ngive 2\ntake 2\ntake 0\ntake 1\n")
        self.assertEqual(web_text(web_of(1, [(None, 0, 0)])), "houses 1\nroad - 0 0\ngive -\ntake 0\n")
        gate = web_of(1, [(None, 0, 1)] * 11 + [(0, None, 1)], {}, {0: (10, 2, 0, 1, 3, 4, 5, 6, 7, 8, 9)})
        self.assertEqual(web_text(gate).split("\n")[-3:], ["give 11", "take 10,2,0,1,3,4,5,6,7,8,9", ""])
        self.assertEqual(unchanged(self, stream_text, (1, 1, 1)), "1 1 1")
        self.assertEqual(stream_text((0, GREAT, 10)), f"0 {GREAT} 10")
        self.assertEqual(stream_text((7,)), "7")

    def test_read_back(self):
        for web in all_webs():
            text = web_text(web)
            self.assertIs(type(text), str)
            self.assertLessEqual(set(text), set("0123456789-, \nhousesroadgivetake"))
            told = unchanged(self, read_web, text)
            self.assertEqual(told, web)
            self.assertIsNone(webfault(told))
            self.assertEqual(web_text(told), text)
            self.assertTrue(begins_a_web(text.split("\n")[:-1]))
            for stream in (nothing(web), calm(web)[0]):
                told = unchanged(self, read_stream, web, stream_text(stream))
                self.assertEqual(told, stream)
                self.assertTrue(type(told) is tuple and all(is_int(bears) for bears in told))

    def test_all_streams_of_small_webs(self):
        for web in small_webs():
            for stream in all_streams(web):
                self.assertEqual(read_stream(web, stream_text(stream)), stream)


class ReadWeb(Case):
    def test_no_texts(self):
        for thing in odd_things() + list(bent(LINE)) + [LINE, [LINE_TEXT], (LINE_TEXT,), {LINE_TEXT: LINE}, LINE_TEXT.encode()]:
            if not isinstance(thing, str):
                self.refused(None, read_web, thing)
                self.refused(None, read_stream, LINE, thing)

    def test_told_lines(self):
        head = "houses 2\nroad - 0 2\nroad 0 1 3\nroad 1 - 1\n"
        for text, line in [
                ("", 0), ("\n", 0), (" ", 0), ("houses", 0), ("houses 0\n", 0), ("houses 9\n", 0), ("houses 02\n", 0),
                ("houses +2\n", 0), ("houses  2\n", 0), ("houses 2 \n", 0), (" houses 2\n", 0), ("Houses 2\n", 0),
                ("houses 2\r\n", 0), ("houses 2\t\n", 0), ("houses 2 2\n", 0), ("houses -\n", 0), ("houses two\n", 0),
                ("houses 2", 1), ("houses 2\n", 1), ("houses 2\n\n", 1), ("houses 2\ngive -\n", 1), ("houses 2\nhouses 2\n", 1),
                ("houses 2\nroad - 0 2", 2), ("houses 2\nroad - 0 2\n", 2), ("houses 2\nro", 1), ("houses 2\nroad - 0\n", 1),
                ("houses 2\nroad - 0 2 3\n", 1), ("houses 2\nroad - - 2\n", 1), ("houses 2\nroad 0 0 2\n", 1),
                ("houses 2\nroad 0 2 2\n", 1), ("houses 2\nroad 2 0 2\n", 1), ("houses 2\nroad x 0 2\n", 1),
                ("houses 2\nroad 0 None 2\n", 1), ("houses 2\nroad  0 1\n", 1), ("houses 2\nroad -  0 1\n", 1),
                ("houses 2\nroad - 0 -\n", 1), ("houses 2\nroad - 0 -1\n", 1), ("houses 2\nroad -1 0 1\n", 1),
                (f"houses 2\nroad - 0 {GREAT + 1}\n", 1), (f"houses 2\nroad - 0 {GREAT}\n", 2), ("houses 2\nroad - 00 1\n", 1),
                ("houses 2\nroad - 0 01\n", 1), ("houses 2\nroad - 0 00\n", 1), ("houses 2\nroad - 0 0\n", 2),
                (head + "give 1\n", 5), (head + "give 1", 5), (head + "give -\n", 4), (head + "give 0\n", 4),
                (head + "give 1,2\n", 4), (head + "give 1,1\n", 4), (head + "give 01\n", 4), (head + "give 1,\n", 4),
                (head + "give ,1\n", 4), (head + "give\n", 4), (head + "give \n", 4), (head + "give 1 \n", 4),
                (head + "take 0\n", 4), (head + "give 1\ntake 0\n", 5), (head + "give 1\ngive 2\ngive -\n", 6),
                (head + "give 1\ngive 2\ntake 1\n", 6), (head + "give 1\ngive 2\ntake 0\ntake 0\n", 7),
                (LINE_TEXT[:-1], 8), (LINE_TEXT + "\n", 8), (LINE_TEXT + "x", 8), (LINE_TEXT + "take -\n", 8),
                (LINE_TEXT + " ", 8), (LINE_TEXT + LINE_TEXT, 8), ("\n" + LINE_TEXT, 0), (" " + LINE_TEXT, 0),
                (LINE_TEXT.replace("\n", "\r\n"), 0), (LINE_TEXT.replace("\n", "\r"), 0), (LINE_TEXT.replace("\n", " "), 0),
                (LINE_TEXT.replace("\n", ""), 0), ("web", 0), ("a" * 4000, 0), ("\n" * 4000, 0), ("houses " + "1" * 3900, 0),
                ("houses 2\nroad - 0 " + "9" * 3900 + "\n", 1)]:
            self.refused(line, read_web, text)
            self.assertEqual(plain_line(text), line, text)

    def test_too_many_roads(self):
        head = "houses 1\n" + "road - 0 1\n" * ROADS
        self.refused(ROADS + 1, read_web, head)
        self.refused(ROADS + 1, read_web, head + "road - 0 1\n")
        self.refused(ROADS + 1, read_web, head + "road - 0 1\ngive -\n")
        order = ",".join(str(k) for k in range(ROADS))
        self.assertEqual(len(read_web(head + f"give -\ntake {order}\n")[0]), ROADS)
        self.refused(ROADS + 2, read_web, head + f"give -\ntake {order},{ROADS}\n")

    def test_the_order_tells(self):
        gate = web_of(1, [(None, 0, 1), (None, 0, 1), (None, 0, 1), (0, None, 1)])
        head = web_text(gate)[:web_text(gate).index("take")]
        for order in itertools.permutations(range(3)):
            told = read_web(head + "take " + ",".join(map(str, order)) + "\n")
            self.assertEqual(told[2], (order,))
        for many in range(1, 5):
            for order in itertools.product(range(4), repeat=many):
                if sorted(order) != [0, 1, 2]:
                    self.refused(6, read_web, head + "take " + ",".join(map(str, order)) + "\n")

    def look(self, text):
        """Against the second look; tells the line, or None of a web."""
        whole = text.endswith("\n") and begins_a_web(text.split("\n")[:-1])
        try:
            web = read_web(text)
        except NoText as refusal:
            self.assertEqual((refusal.line, type(refusal.line)), (plain_line(text), int), text)
            return refusal.line
        self.assertTrue(whole)
        self.assertIsNone(webfault(web))
        self.assertEqual(web_text(web), text)
        return None

    def test_bent_texts(self):
        seen = set()
        webs = [LINE, ALONE, RING, web_of(1, [(None, 0, 10), (None, 0, 0), (0, None, 1)]), *list(bound_webs())[:2]]
        for web in webs:
            for text in mended(web_text(web)):
                seen.add(self.look(text))
        self.assertLessEqual({None, *range(9)}, seen)

    def test_bent_texts_of_many_webs(self):
        dice = dice_of(151)
        for web in [*great_webs()][::5] + [*bound_webs()]:
            text = web_text(web)
            bends = list(mended(text))
            for other in dice.sample(bends, 60):
                self.look(other)

    def test_texts_put_together_by_chance(self):
        dice = dice_of(152)
        words = ["houses", "road", "give", "take", "-", "0", "1", "2", "01", "0,1", "1,0", "", "x", "+1", str(GREAT), "9" * 13]
        for turn in range(1500):
            lines = ["houses 2", "road - 0 1", "road 0 1 5", "give 1", "give -", "take 0", "take 1"]
            for bend in range(dice.randint(0, 2)):
                lines[dice.randrange(len(lines))] = " ".join(dice.choice(words) for k in range(dice.randint(1, 4)))
            self.look("\n".join(lines) + dice.choice(["\n", "\n", ""]))


class ReadStream(Case):
    def test_told_ones(self):
        self.assertEqual(read_stream(LINE, "1 1 1"), (1, 1, 1))
        self.assertEqual(read_stream(LINE, "0 0 0"), (0, 0, 0))
        for text in ["", " ", "1", "1 1", "1 1 1 1", "1 1 1\n", "\n", "1 1 1 ", " 1 1 1", "1  1 1", "1 1 01", "01 1 1", "1,1,1", "+1 1 1",
                     "1 1 +1", "-0 0 0", "1 1 0", "0 1 1", "2 2 2", "3 3 3", "1 1 x", "1\n1\n1", "1\t1\t1", "1 1 1\r", "00 0 0", "1 1 1.0",
                     "1_0 1 1", "9" * 14 + " 1 1", "9" * 3999, "1 " * 1999 + "1", "lot", "-", "- - -", "1 1 -", "a" * 400, "True True True",
                     "1 1 None", "0x1 1 1", "1e0 1 1", "(1, 1, 1)", "1 1 1 -"]:
            self.refused(0, read_stream, LINE, text)

    def test_at_the_bounds(self):
        web = web_of(1, [(None, 0, GREAT), (0, None, GREAT)])
        self.assertEqual(read_stream(web, f"{GREAT} {GREAT}"), (GREAT, GREAT))
        self.refused(0, read_stream, web, f"{GREAT + 1} {GREAT + 1}")
        self.refused(0, read_stream, web, f"{GREAT}0 {GREAT}0")
        self.refused(0, read_stream, web, f"{GREAT} {GREAT - 1}")
        one = web_of(1, [(None, 0, 5)])
        self.assertEqual(read_stream(one, "0"), (0,))
        self.refused(0, read_stream, one, "1")
        self.refused(0, read_stream, one, "")

    def test_all_rows_of_small_webs(self):
        dice = dice_of(153)
        for turn in range(20):
            web = any_web(dice, dice.randint(1, 2), dice.randint(1, 4), 2)
            for row in itertools.product(range(4), repeat=len(web[0])):
                text = " ".join(map(str, row))
                if streamfault(web, row) is None:
                    self.assertEqual(read_stream(web, text), row)
                else:
                    self.refused(0, read_stream, web, text)


if __name__ == "__main__":
    unittest.main()
