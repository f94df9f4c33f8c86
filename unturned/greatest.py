"""Streams of the greatest worth, and the lots that are narrowest."""

from unturned.leading import calm
from unturned.lots import is_lot
from unturned.streams import nothing, worth


def greatest(web):
    """A stream of the greatest worth of all."""
    stream = nothing(web)
    steps = steps_through(web, stream)
    while len(steps) > 0:
        stream = behind_steps(web, stream, steps)
        steps = steps_through(web, stream)
    return stream


def steps_through(web, stream):
    """The fewest steps by which more can go from outside to outside, () where it can't.

    With the fewest ones each time, how often that is done doesn't grow with the rooms.
    """
    for house, steps in reached(web, stream).items():
        for road in web[1][house]:
            if web[0][road][1] is None and stream[road] < web[0][road][2]:
                return (*steps, (road, 1))
    return ()


def reached(web, stream):
    """For each house to which more can go from outside the steps to it, those with fewer steps first."""
    steps_to = {}
    ahead = [(None, ())]
    while len(ahead) > 0:
        place, steps = ahead.pop(0)
        for house, step in steps_from(web, stream, place):
            if house not in steps_to:
                steps_to[house] = (*steps, step)
                ahead.append((house, steps_to[house]))
    return steps_to


def steps_from(web, stream, place):
    """The houses to which one step goes from there, each with the step.

    A step is (road, 1), by which the road bears more, or (road, -1), against the road, by which it bears less.
    """
    steps = []
    for road, (begin, end, room) in enumerate(web[0]):
        if begin == place and end is not None and stream[road] < room:
            steps.append((end, (road, 1)))
        # Nothing is called back from outside: what has gone out is to stay there.
        if place is not None and end == place and begin is not None and stream[road] > 0:
            steps.append((begin, (road, -1)))
    return steps


def behind_steps(web, stream, steps):
    """The stream behind as many units as can go these steps."""
    many = min([web[0][road][2] - stream[road] if more > 0 else stream[road] for road, more in steps])
    bears = list(stream)
    for road, more in steps:
        bears[road] += more * many
    return tuple(bears)


def narrows(web, lot):
    """The roads that begin outside or in the lot and end outside or at a house that isn't of it."""
    return [road for road, (begin, end, room) in enumerate(web[0])
            if (begin is None or begin in lot) and (end is None or end not in lot)]


def narrow_room(web, lot):
    """The sum of the rooms of the narrows."""
    return sum([web[0][road][2] for road in narrows(web, lot)])


def narrowest(web):
    """A lot with the least narrow_room, that is the greatest worth."""
    return tuple(sorted(list(reached(web, greatest(web)))))


def narrow_holds(web, stream, thing):
    """Whether it is a lot that shows the stream to be of the greatest worth."""
    if not is_lot(web, thing) or not all([stream[road] == web[0][road][2] for road in narrows(web, thing)]):
        return False
    return all([stream[road] == 0 for road, (begin, end, room) in enumerate(web[0])
                if end in thing and begin is not None and begin not in thing])


def lost(web):
    """By how much the greatest worth is above that of calm streams."""
    return worth(web, greatest(web)) - worth(web, calm(web)[0])
