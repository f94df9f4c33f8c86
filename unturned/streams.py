"""Streams of a web: what each road bears."""

from unturned.plain import borne, is_number, is_tuple_of
from unturned.webs import doors, in_doors


def streamfault(web, thing):
    """None of a stream of the web, else the first fault."""
    roads, gives, takes = web
    if not is_form(thing, len(roads)):
        return ("form",)
    for road, bears in enumerate(thing):
        if bears > roads[road][2]:
            return ("room", road)
    for house, order in enumerate(gives):
        if borne(thing, takes[house]) != borne(thing, order):
            return ("house", house)
    return None


def is_form(thing, many):
    """Whether it is a tuple of so many numbers from 0 on."""
    return is_tuple_of(thing, many, many) and all([is_number(bears) and bears >= 0 for bears in thing])


def nothing(web):
    """The stream that bears nothing."""
    return tuple([0 for road in web[0]])


def through(web, stream):
    """For each house how much comes in."""
    return tuple([borne(stream, order) for order in web[2]])


def worth(web, stream):
    """How much comes in by all in-doors."""
    return borne(stream, in_doors(web))


def at_doors(web, stream):
    """A pair (road, bears) for each door, rising."""
    return tuple([(door, stream[door]) for door in doors(web)])
