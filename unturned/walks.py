"""Walks that turn a stream."""

from unturned.plain import has_less_liked, is_number_to, is_tuple_of


def turns(web, stream, thing):
    """Whether it is a walk that turns the stream."""
    return is_walk(web, stream, thing) and first_gladly(web, stream, thing[0]) and last_gladly(web, stream, thing[-1])


def is_walk(web, stream, thing):
    """Whether it is a tuple of roads with room left, each once, each from the house where the one ahead ends."""
    if not is_path(web, thing):
        return False
    return len(set(thing)) == len(thing) and all([has_room(web, stream, road) for road in thing])


def is_path(web, thing):
    """Whether it is a tuple of one road or more, each but the first from the house where the one ahead ends."""
    roads = web[0]
    if not is_tuple_of(thing, 1, len(roads)) or not all([is_number_to(road, len(roads) - 1) for road in thing]):
        return False
    # Outside is no house: what has come there doesn't go on from there.
    return all([roads[ahead][1] is not None and roads[ahead][1] == roads[road][0]
                for ahead, road in zip(thing, thing[1:])])


def has_room(web, stream, road):
    """Whether the road has room left."""
    return stream[road] < web[0][road][2]


def first_gladly(web, stream, road):
    """Whether the beginning of this road would gladly have a unit more go along it."""
    begin = web[0][road][0]
    return begin is None or has_less_liked(stream, web[1][begin], road)


def last_gladly(web, stream, road):
    """Whether the end of this road would gladly have a unit more come along it."""
    end = web[0][road][1]
    return end is None or has_less_liked(stream, web[2][end], road)
