"""Desks: what a hall does and tells, by lines of text."""

from unturned.errors import (BadOrder, Busy, Full, Held, Last, Long, NoEnd, NoHouse, NoRoad, NoRoom, NoStream,
                             NothingBack, TooGreat)
from unturned.greatest import lost
from unturned.texts import number_in, roads_in, stream_text

SAID_PAIRS = 20
# What stands behind the word of each deed, and behind that of each question but verdict.
DEED_FORMS = {"lay": ("end", "end", "number"), "shut": ("number",), "widen": ("number", "number"),
              "give": ("number", "roads"), "take": ("number", "roads"), "build": (), "raze": (), "back": ()}
QUESTION_FORMS = {"calm": (), "lot": (), "doors": (), "change": ("number",), "lost": ()}


def calm_answer(hall):
    """What the roads bear in the calm stream."""
    return stream_text(hall.calm()[0])


def lot_answer(hall):
    """The houses of the lot that calms it."""
    return numbers_text(hall.calm()[1])


def numbers_text(numbers):
    """The numbers with blanks between."""
    return words_text([str(number) for number in numbers])


def words_text(words):
    """The words with blanks between, - of none."""
    return " ".join(words) if len(words) > 0 else "-"


def doors_answer(hall):
    """What each door bears."""
    return words_text([f"{door}:{bears}" for door, bears in hall.door_row()])


def change_answer(hall, road):
    """Which doors bear otherwise with one unit more room at the road."""
    return words_text([f"{door}{more:+}" for door, more in hall.change(road)])


def lost_answer(hall):
    """By how much the greatest worth is above that of the calm stream."""
    return str(lost(hall.web()))


def verdict_answer(hall, *stream):
    """The lot that calms the stream, or a walk that turns it."""
    word, paper = hall.verdict(stream)
    return f"{word} {numbers_text(paper)}"


ANSWERS = {"calm": calm_answer, "lot": lot_answer, "doors": doors_answer, "change": change_answer, "lost": lost_answer,
           "verdict": verdict_answer}


def answer_to(hall, line):
    """The answer to a text."""
    words = line.split(" ")
    kinds = kinds_behind(words)
    if kinds is None or len(kinds) != len(words) - 1:
        return "no line"
    if not all([fits(kind, word) for kind, word in zip(kinds, words[1:])]):
        return "no line"
    return answer_or_refusal(hall, words[0], [thing_in(kind, word) for kind, word in zip(kinds, words[1:])])


def kinds_behind(words):
    """The kinds of what stands behind the first of these words, or None where no line begins with it."""
    if words[0] == "verdict":
        return ("number",) * max(1, len(words) - 1)
    return DEED_FORMS.get(words[0], QUESTION_FORMS.get(words[0]))


def fits(kind, word):
    """Whether the word is of this kind."""
    return thing_in(kind, word) is not None or (kind == "end" and word == "-")


def thing_in(kind, word):
    """What a word of this kind tells; None is outside."""
    return roads_in(word) if kind == "roads" else number_in(word)


def answer_or_refusal(hall, word, things):
    """What the hall answers, or the class name of its refusal: an error can't be asked for it here."""
    try:
        return answer(hall, word, things)
    except BadOrder:
        return "no BadOrder"
    except Busy:
        return "no Busy"
    except Full:
        return "no Full"
    except Held:
        return "no Held"
    except Last:
        return "no Last"
    except Long:
        return "no Long"
    except NoEnd:
        return "no NoEnd"
    except NoHouse:
        return "no NoHouse"
    except NoRoad:
        return "no NoRoad"
    except NoRoom:
        return "no NoRoom"
    except NoStream:
        return "no NoStream"
    except NothingBack:
        return "no NothingBack"
    except TooGreat:
        return "no TooGreat"


def answer(hall, word, things):
    """What the hall answers to the word and the things behind it."""
    if word in ANSWERS:
        action = ANSWERS[word]
        return action(hall, *things)
    if word == "back":
        hall.back()
    else:
        hall.do((word, *things))
    return "done"


class Desk:
    """A desk over a hall."""

    def __init__(self, hall):
        self.hall = hall
        self.pairs = []

    def say(self, line):
        """The answer to the line, whatever it is."""
        text = line if isinstance(line, str) else None
        answered = "no line" if text is None else answer_to(self.hall, text)
        self.pairs = self.pairs[1 - SAID_PAIRS:] + [(text, answered)]
        return answered

    def said(self):
        """The last pairs (line, answer)."""
        return tuple(self.pairs)
