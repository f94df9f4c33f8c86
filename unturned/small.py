"""All streams of small webs, and all lots that calm a stream."""

from unturned.bounds import SMALL
from unturned.errors import TooMany
from unturned.lots import calms, is_calm
from unturned.streams import streamfault


def streams_of(web):
    """All streams, rising."""
    check_small(web)
    rows = [()]
    for begin, end, room in web[0]:
        rows = [(*row, bears) for row in rows for bears in range(room + 1)]
    return tuple([row for row in rows if streamfault(web, row) is None])


def check_small(web):
    """TooMany where there are too many rows to go through."""
    many = 1
    for begin, end, room in web[0]:
        many *= room + 1
    if many > SMALL:
        raise TooMany(SMALL)


def calm_streams(web):
    """All calm streams, rising."""
    return tuple([stream for stream in streams_of(web) if is_calm(web, stream)])


def many_lots(web, stream):
    """How many lots calm the stream."""
    return len([lot for lot in all_lots(web) if calms(web, stream, lot)])


def all_lots(web):
    """All lots of houses of the web."""
    lots = [()]
    for house in range(len(web[1])):
        lots = lots + [(*lot, house) for lot in lots]
    return lots


def bears_at(web, road):
    """All that calm streams bear on the road, rising."""
    return tuple(sorted({stream[road] for stream in calm_streams(web)}))
