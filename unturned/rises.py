"""How much a door bears as its room goes up, and how the other doors go with it."""

from unturned.bounds import GREAT
from unturned.errors import NoDoor
from unturned.leading import calm, fair_of, sharing_of
from unturned.others import turned
from unturned.rooms import door_row, with_room
from unturned.settling import rows_behind
from unturned.webs import doors


def most_by(web, door):
    """The greatest number that the door bears in calm streams, whatever its room is."""
    check_door(web, door)
    return dict(door_row(with_room(web, door, GREAT)))[door]


def check_door(web, road):
    """NoDoor of a road between houses."""
    if road not in doors(web):
        raise NoDoor(road)


def rise(web, door):
    """Rows (many, other, more): with each of so many units of room the other door bears one more, or less."""
    check_door(web, door)
    # What goes out goes in where each road is turned about, and calm streams are the same there.
    return merged(in_rows(web if web[0][door][0] is None else turned(web), door))


def in_rows(web, door):
    """The rows of an in-door, neighbours perhaps alike.

    The calm stream with no room at the door is led on with all the room that there may be. By a row that
    begins with the door what comes in there goes out by the last road, which bears more, or takes the place
    of what came in by the last road, which bears less. All other rows are rings, by which no door bears
    otherwise: a house takes from the door only while it takes something by a road that it likes less, so
    that no ring goes through the door.
    """
    stream, lot = calm(with_room(web, door, 0))
    wide = with_room(web, door, GREAT)
    rows = rows_behind(fair_of(wide), sharing_of(wide, stream, lot))
    return [(many, ties[-1], 1 if len(ties) % 2 == 1 else -1) for ties, many in rows if ties[0] == door]


def merged(rows):
    """The rows with neighbours put together that are alike in other and more."""
    told = []
    for many, other, more in rows:
        if len(told) > 0 and told[-1][1:] == (other, more):
            many += told.pop()[0]
        told.append((many, other, more))
    return tuple(told)
