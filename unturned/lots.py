"""Lots of houses that calm a stream."""

from unturned.plain import is_number_to, is_tuple_of
from unturned.walks import first_gladly, last_gladly


def calms(web, stream, thing):
    """Whether it is a lot that calms the stream."""
    if not is_lot(web, thing):
        return False
    return all([is_stopped(web, stream, thing, road) for road in pressed(web, stream, thing)])


def is_lot(web, thing):
    """Whether it is a rising tuple of houses."""
    houses = len(web[1])
    if not is_tuple_of(thing, 0, houses) or not all([is_number_to(house, houses - 1) for house in thing]):
        return False
    return all([ahead < house for ahead, house in zip(thing, thing[1:])])


def pressed(web, stream, lot):
    """The roads that are pressed by the lot."""
    return [road for road, (begin, end, room) in enumerate(web[0])
            if stream[road] < room and (begin in lot or first_gladly(web, stream, road))]


def is_stopped(web, stream, lot, road):
    """Whether the road ends at a house of the lot that wouldn't gladly have a unit more come along it."""
    return web[0][road][1] in lot and not last_gladly(web, stream, road)


def least_lot(web, stream):
    """The lot within all that calm the stream, or None where it isn't calm."""
    lot = ()
    wider = with_pressed(web, stream, lot)
    while wider != lot:
        lot = wider
        wider = with_pressed(web, stream, lot)
    return lot if calms(web, stream, lot) else None


def with_pressed(web, stream, lot):
    """The lot and all houses at which roads end that it presses: each lot around it that calms has them."""
    ends = [web[0][road][1] for road in pressed(web, stream, lot)]
    return tuple([house for house in range(len(web[1])) if house in lot or house in ends])


def greatest_lot(web, stream):
    """The lot that has all within that calm the stream, or None where it isn't calm."""
    lot = tuple(range(len(web[1])))
    narrower = without_unstopped(web, stream, lot)
    while narrower != lot:
        lot = narrower
        narrower = without_unstopped(web, stream, lot)
    return lot if calms(web, stream, lot) else None


def without_unstopped(web, stream, lot):
    """The lot without houses at which unstopped roads begin: no lot within it that calms has them."""
    begins = [begin for road, (begin, end, room) in enumerate(web[0])
              if stream[road] < room and not is_stopped(web, stream, lot, road)]
    return tuple([house for house in lot if house not in begins])


def is_calm(web, stream):
    """Whether no walk turns the stream."""
    return least_lot(web, stream) is not None
