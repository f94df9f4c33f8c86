"""Papers for and against a stream: a lot that calms it, or a walk that turns it."""

from unturned.lots import calms, least_lot
from unturned.plain import is_tuple_of
from unturned.walks import first_gladly, has_room, last_gladly, turns


def verdict(web, stream):
    """("lot", least_lot) of a calm stream, else ("walk", walk) with a walk that turns it."""
    lot = least_lot(web, stream)
    if lot is None:
        return ("walk", turning_walk(web, stream))
    return ("lot", lot)


def turning_walk(web, stream):
    """A walk that turns the stream, or None; no other one has fewer roads."""
    roads, gives, takes = web
    ahead = [(road,) for road in range(len(roads)) if has_room(web, stream, road) and first_gladly(web, stream, road)]
    seen = {walk[0]: True for walk in ahead}
    while len(ahead) > 0:
        walk = ahead.pop(0)
        if last_gladly(web, stream, walk[-1]):
            return walk
        # A last road that ends outside would have turned it, so this one ends at a house.
        for road in gives[roads[walk[-1]][1]]:
            if road not in seen and has_room(web, stream, road):
                seen[road] = True
                ahead.append((*walk, road))
    return None


def verdict_holds(web, stream, thing):
    """Whether it is ("lot", a lot that calms the stream) or ("walk", a walk that turns it)."""
    if not is_tuple_of(thing, 2, 2):
        return False
    word, paper = thing
    if word == "lot":
        return calms(web, stream, paper)
    return word == "walk" and turns(web, stream, paper)
