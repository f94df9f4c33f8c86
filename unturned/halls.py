"""Halls: webs under deeds that can be taken back."""

from unturned.bounds import BATCH, DEEDS, GREAT, HOUSES, ROADS
from unturned.errors import (BadWeb, Broken, Busy, Full, Held, Last, Long, NoDeeds, NoEnd, NoHouse, NoMoment, NoRoad,
                             NoRoom, NoStream, NothingBack, WebError)
from unturned.leading import calm
from unturned.others import with_like, without
from unturned.plain import exchanged, is_number_to
from unturned.rooms import change, door_row, with_room
from unturned.streams import streamfault
from unturned.verdicts import verdict
from unturned.webs import is_end, webfault

LOG_ROWS = 10


def road_laid(web, begin, end, room):
    """The web with one road more, the last, liked least at both ends."""
    roads, gives, takes = web
    if not is_end(begin, len(gives)):
        raise NoEnd(begin)
    if not is_end(end, len(gives)) or begin == end:
        raise NoEnd(end)
    check_room(room)
    if len(roads) >= ROADS:
        raise Full()
    road = len(roads)
    return (roads + ((begin, end, room),), with_least(gives, begin, road), with_least(takes, end, road))


def with_least(orders, house, road):
    """The orders in which the house, if it is one, has this road, too, and likes it least."""
    if house is None:
        return orders
    return exchanged(orders, house, orders[house] + (road,))


def road_shut(web, road):
    """The web without that road."""
    check_road(web, road)
    if len(web[0]) == 1:
        raise Last()
    return without(web, road)


def road_widened(web, road, room):
    """The web with another room at that road."""
    check_road(web, road)
    check_room(room)
    return with_room(web, road, room)


def giving_changed(web, house, order):
    """The web with another order of the roads by which the house gives."""
    check_house(web, house)
    return with_like(web, house, order)


def taking_changed(web, house, order):
    """The web with another order of the roads by which the house takes."""
    check_house(web, house)
    return with_like(web, house, order, giving=False)


def house_built(web):
    """The web with one house more, the last, without roads."""
    roads, gives, takes = web
    if len(gives) >= HOUSES:
        raise Full()
    return (roads, gives + ((),), takes + ((),))


def house_razed(web):
    """The web without the last house, at which there is no road."""
    roads, gives, takes = web
    if len(gives) == 1:
        raise Last()
    if len(gives[-1]) > 0 or len(takes[-1]) > 0:
        raise Held()
    return (roads, gives[:-1], takes[:-1])


def check_road(web, thing):
    """NoRoad of what is no road's number."""
    if not is_number_to(thing, len(web[0]) - 1):
        raise NoRoad(thing)


def check_house(web, thing):
    """NoHouse of what is no house's number."""
    if not is_number_to(thing, len(web[1]) - 1):
        raise NoHouse(thing)


def check_room(thing):
    """NoRoom of what is no room."""
    if not is_number_to(thing, GREAT):
        raise NoRoom(thing)


# What each deed makes of a web, and how many things it takes.
ACTIONS = {"lay": road_laid, "shut": road_shut, "widen": road_widened, "give": giving_changed, "take": taking_changed,
           "build": house_built, "raze": house_razed}
HANDED = {"lay": 3, "shut": 1, "widen": 2, "give": 2, "take": 2, "build": 0, "raze": 0}


def are_deeds(thing):
    """Whether it is a list or tuple of deeds, not too many."""
    return isinstance(thing, (list, tuple)) and len(thing) <= BATCH and all([is_deed(deed) for deed in thing])


def is_deed(thing):
    """Whether it is a tuple with the word of a deed and as many things as that takes, whatever they are."""
    if not isinstance(thing, tuple) or len(thing) == 0 or not isinstance(thing[0], str):
        return False
    return thing[0] in HANDED and len(thing) - 1 == HANDED[thing[0]]


class Hall:
    """A web that deeds change."""

    def __init__(self, web):
        fault = webfault(web)
        if fault is not None:
            path, word = fault
            raise BadWeb(path, word)
        # The web ahead of all deeds, then the one behind each deed that stands.
        self.webs = (web,)
        self.stood = ()
        self.busy = False
        self.logged = []

    def lay(self, begin, end, room):
        """One road more, the last, liked least at both ends."""
        self.do(("lay", begin, end, room))

    def shut(self, road):
        """That road goes."""
        self.do(("shut", road))

    def widen(self, road, room):
        """Another room at that road."""
        self.do(("widen", road, room))

    def give(self, house, order):
        """Another order of the roads by which the house gives."""
        self.do(("give", house, order))

    def take(self, house, order):
        """Another order of the roads by which the house takes."""
        self.do(("take", house, order))

    def build(self):
        """One house more, the last, without roads."""
        self.do(("build",))

    def raze(self):
        """The last house goes."""
        self.do(("raze",))

    def back(self):
        """The last deed that stands is undone."""
        self.check_idle()
        if len(self.stood) == 0:
            raise NothingBack()
        self.webs = self.webs[:-1]
        self.stood = self.stood[:-1]

    def do(self, deed):
        """Does a deed by itself."""
        self.check_idle()
        self.stand(deed)

    def check_idle(self):
        """Busy while deeds are tried."""
        if self.busy:
            raise Busy()

    def stand(self, deed):
        """Does a deed, which then stands."""
        if len(self.stood) >= DEEDS:
            raise Long()
        word, *things = deed
        action = ACTIONS[word]
        web = self.web()
        self.webs = self.webs + (action(web, *things),)
        self.stood = self.stood + (deed,)

    def tried(self, deeds, *, tell=None):
        """Does all these deeds, or none; tell(hall) is called behind each."""
        self.check_idle()
        if not are_deeds(deeds):
            raise NoDeeds()
        # tell may change the list that was handed in.
        rows = list(deeds)
        webs, stood, many = self.webs, self.stood, 0
        self.logged = self.logged[1 - LOG_ROWS:] + [("begin", len(rows))]
        self.busy = True
        try:
            for number, deed in enumerate(rows):
                self.stand_tried(number, deed)
                if tell is not None:
                    tell(self)
            webs, stood, many = self.webs, self.stood, len(rows)
        finally:
            self.webs, self.stood, self.busy = webs, stood, False
            self.logged.append(("end", many))

    def stand_tried(self, number, deed):
        """Does the deed of this number of those that are tried."""
        try:
            self.stand(deed)
        except (WebError, NoEnd, NoHouse, NoRoad) as refusal:
            raise Broken(number) from refusal

    def log(self):
        """The last rows ("begin", how many) and ("end", how many of them stand)."""
        return tuple(self.logged[-LOG_ROWS:])

    def web(self):
        """The web as it is."""
        return self.webs[-1]

    def deeds(self):
        """The deeds that stand, as tuples (word, ..)."""
        return self.stood

    def calm(self):
        """A calm stream of the web as it is, and the least lot that calms it."""
        return calm(self.web())

    def door_row(self):
        """What all calm streams of the web as it is bear at the doors."""
        return door_row(self.web())

    def change(self, road):
        """What one unit more room at the road changes at the doors."""
        check_road(self.web(), road)
        return change(self.web(), road)

    def verdict(self, stream):
        """A lot that calms the stream, or a walk that turns it."""
        fault = streamfault(self.web(), stream)
        if fault is not None:
            raise NoStream(fault)
        return verdict(self.web(), stream)

    def behind(self, number):
        """The web behind the first so many deeds that stand."""
        if not is_number_to(number, len(self.stood)):
            raise NoMoment(number)
        return self.webs[number]

    def twin(self):
        """A hall that is just so, with its own deeds to be taken back."""
        hall = Hall(self.web())
        hall.webs = self.webs
        hall.stood = self.stood
        return hall

    def __len__(self):
        return len(self.stood)

    def __eq__(self, other):
        return isinstance(other, Hall) and self.webs[-1] == other.webs[-1]

    def __str__(self):
        return f"{len(self.webs[-1][1])} houses, {len(self.webs[-1][0])} roads, {len(self.stood)} deeds"
