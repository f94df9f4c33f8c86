"""Two calm streams with their lots, joined and met."""

from unturned.lots import calms
from unturned.plain import borne, is_tuple_of
from unturned.streams import streamfault


def is_pair(web, thing):
    """Whether it is a tuple (stream, lot), a lot that calms the stream."""
    return is_tuple_of(thing, 2, 2) and streamfault(web, thing[0]) is None and calms(web, thing[0], thing[1])


def liked(web, house, one, other):
    """1 where the first pair is better at the house, -1 where the other one is, 0 where neither."""
    first = standing_of(web, house, one)
    second = standing_of(web, house, other)
    if first == second:
        return 0
    return 1 if first > second else -1


def standing_of(web, house, pair):
    """Numbers that Python orders as the house likes pairs.

    Where the house is of both lots, one of both pairs bears no less on each road that begins there, so
    that the first road on which they are unlike tells which one bears more on some.
    """
    stream, lot = pair
    bears = [stream[road] for road in web[1][house]]
    if house in lot:
        return [0, 0, *bears]
    return [1, -borne(stream, web[2][house]), *bears]


def joined(web, one, other):
    """The pair in which each house gives what the better one bears there."""
    better = [other if liked(web, house, one, other) < 0 else one for house in range(len(web[1]))]
    # In-doors bear the same in all calm streams, so either pair tells it.
    stream = tuple([(one if begin is None else better[begin])[0][road]
                    for road, (begin, end, room) in enumerate(web[0])])
    return (stream, tuple([house for house in one[1] if house in other[1]]))


def met(web, one, other):
    """The pair with what joined leaves of both."""
    stream = tuple([first + second - taken for first, second, taken
                    in zip(one[0], other[0], joined(web, one, other)[0])])
    return (stream, tuple([house for house in range(len(web[1])) if house in one[1] or house in other[1]]))
