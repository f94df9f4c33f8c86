"""All streams of small webs, and all lots that calm a stream."""

from unturned.bounds import SMALL
from unturned.errors import TooMany
from unturned.lots import calms, is_calm
from unturned.rooms import door_row


def streams_of(web):
    """All streams, rising."""
    check_small(web)
    return streams_among(web, [range_to(room) for begin, end, room in web[0]])


def check_small(web):
    """TooMany where there are too many rows to go through."""
    many = 1
    for begin, end, room in web[0]:
        many *= room + 1
    if many > SMALL:
        raise TooMany(SMALL)


def range_to(most):
    """The numbers from 0 to most."""
    return list(range(most + 1))


def streams_among(web, choices):
    """All streams with one of its choices, which rise, on each road, rising.

    The first half of the roads is gone through, and beside it only what goes with it of the other half.
    """
    half = len(choices) // 2
    steps = steps_of(web)
    later = {}
    for row, lack in rows_among(steps[half:], choices[half:]):
        later.setdefault(-lack, []).append(row)
    return tuple([row + rest for row, lack in rows_among(steps[:half], choices[:half]) for rest in later.get(lack, [])])


def steps_of(web):
    """For each road what one unit on it adds to the lack of all houses.

    The lack of each house, what comes less what goes, has a place of its own in one number. It is less than
    SMALL, as all rooms together are, so that the number is 0 only where nothing lacks at any house.
    """
    places = {None: 0}
    place = 1
    for house in range(len(web[1])):
        places[house] = place
        place *= SMALL
    return [places[end] - places[begin] for begin, end, room in web[0]]


def rows_among(steps, choices):
    """All rows with one of the choices for each step, rising, each with its lack."""
    rows = [((), 0)]
    for step, numbers in zip(steps, choices):
        rows = [((*row, bears), lack + step * bears) for row, lack in rows for bears in numbers]
    return rows


def calm_streams(web):
    """All calm streams, rising."""
    check_small(web)
    # All calm streams bear the same on each door, so that only the other roads are to be gone through.
    fixed = dict(door_row(web))
    choices = [[fixed[road]] if road in fixed else range_to(room) for road, (begin, end, room) in enumerate(web[0])]
    return tuple([stream for stream in streams_among(web, choices) if is_calm(web, stream)])


def many_lots(web, stream):
    """How many lots calm the stream."""
    return len([lot for lot in all_lots(web) if calms(web, stream, lot)])


def all_lots(web):
    """All lots of houses of the web."""
    lots = [()]
    for house in range(len(web[1])):
        lots = lots + [(*lot, house) for lot in lots]
    return lots


def bears_at(web, road):
    """All that calm streams bear on the road, rising."""
    return tuple(sorted({stream[road] for stream in calm_streams(web)}))
