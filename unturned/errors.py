"""The refusals. Each has its fields as they were handed in."""


class WebError(ValueError):
    """Over all refusals of something that has a wrong worth or comes at a wrong time."""


class BadWeb(WebError):
    """It is no web."""

    def __init__(self, path, word):
        self.path = path
        self.word = word


class TooGreat(WebError):
    """A room would be too great."""


class Full(WebError):
    """There would be too many houses or roads."""


class NoRoads(WebError):
    """No road would be left."""


class BadOrder(WebError):
    """It is no order of just those roads."""


class TooMany(WebError):
    """There are too many to go through."""

    def __init__(self, bound):
        self.bound = bound


class Long(WebError):
    """Too many deeds stand."""


class Busy(WebError):
    """Deeds are being tried."""


class NothingBack(WebError):
    """No deed stands that could be undone."""


class NoDeeds(WebError):
    """It is no row of deeds."""


class Broken(WebError):
    """One of several deeds was refused."""

    def __init__(self, number):
        self.number = number


class Last(WebError):
    """It is the only one."""


class Held(WebError):
    """A road holds the house."""


class NoRoom(WebError):
    """It is no room."""

    def __init__(self, room):
        self.room = room


class NoStream(WebError):
    """It is no stream."""

    def __init__(self, fault):
        self.fault = fault


class NoText(WebError):
    """It is no such text."""

    def __init__(self, line):
        self.line = line


class NoDoor(LookupError):
    """The road is no door."""

    def __init__(self, road):
        self.road = road


class NoRoad(LookupError):
    """It is no road's number."""

    def __init__(self, road):
        self.road = road


class NoHouse(LookupError):
    """It is no house's number."""

    def __init__(self, house):
        self.house = house


class NoEnd(LookupError):
    """A road can't begin or end there."""

    def __init__(self, end):
        self.end = end


class NoMoment(LookupError):
    """No moment has this number."""

    def __init__(self, number):
        self.number = number
