"""What doors bear in calm streams, and what one unit of room more changes there."""

from unturned.bounds import GREAT
from unturned.errors import TooGreat
from unturned.leading import calm
from unturned.plain import exchanged
from unturned.streams import at_doors


def door_row(web):
    """A pair (road, bears) for each door, rising, alike in all calm streams."""
    return at_doors(web, calm(web)[0])


def with_room(web, road, room):
    """The web with another room at that road."""
    begin, end = web[0][road][:2]
    return exchanged(web, 0, exchanged(web[0], road, (begin, end, room)))


def change(web, road):
    """A pair (door, more) for each door that bears otherwise with one unit more room at the road, rising."""
    room = web[0][road][2]
    if room >= GREAT:
        raise TooGreat()
    now = door_row(web)
    then = dict(door_row(with_room(web, road, room + 1)))
    return tuple([(door, then[door] - bears) for door, bears in now if then[door] != bears])
