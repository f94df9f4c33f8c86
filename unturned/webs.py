"""Webs of houses and roads, and their doors."""

from unturned.bounds import GREAT, HOUSES, ROADS
from unturned.plain import is_number_to, is_order, is_tuple_of


def webfault(thing):
    """None of a web, else (path, word) of the first fault."""
    if not is_tuple_of(thing, 3, 3):
        return ((), "web")
    roads, gives, takes = thing
    if not is_tuple_of(gives, 1, HOUSES):
        return ((1,), "gives")
    if not is_tuple_of(takes, len(gives), len(gives)):
        return ((2,), "takes")
    if not is_tuple_of(roads, 1, ROADS):
        return ((0,), "roads")
    for number, road in enumerate(roads):
        fault = road_fault(number, road, len(gives))
        if fault is not None:
            return fault
    fault = order_fault(1, gives, [begin for begin, end, room in roads])
    if fault is not None:
        return fault
    return order_fault(2, takes, [end for begin, end, room in roads])


def road_fault(number, road, houses):
    """The first fault of the road of this number, or None."""
    if not is_tuple_of(road, 3, 3):
        return ((0, number), "road")
    begin, end, room = road
    if not is_end(begin, houses):
        return ((0, number, 0), "begin")
    if not is_end(end, houses):
        return ((0, number, 1), "end")
    if begin == end:
        return ((0, number), "alike")
    if not is_number_to(room, GREAT):
        return ((0, number, 2), "room")
    return None


def is_end(thing, houses):
    """Whether it is outside, or the number of a house."""
    return thing is None or is_number_to(thing, houses - 1)


def order_fault(place, orders, ends):
    """The first fault of the orders at this place of a web; ends has for each road the house that has it."""
    for house, order in enumerate(orders):
        if not is_order(order, [road for road, end in enumerate(ends) if end == house]):
            return ((place, house), "order")
    return None


def in_doors(web):
    """The roads that begin outside, rising."""
    return tuple([number for number, road in enumerate(web[0]) if road[0] is None])


def out_doors(web):
    """The roads that end outside, rising."""
    return tuple([number for number, road in enumerate(web[0]) if road[1] is None])


def doors(web):
    """The roads that begin or end outside, rising."""
    return tuple([number for number, road in enumerate(web[0]) if road[0] is None or road[1] is None])
