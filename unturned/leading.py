"""Webs led to fairs, and settled sharings led back to calm streams."""

from unturned.settling import settle, settle_back
from unturned.streams import through
from unturned.webs import in_doors, out_doors


def fair_of(web):
    """The fair whose settled sharings are the calm streams of the web, with lots that calm them."""
    return (road_ties(web) + house_ties(web), givers_of(web), takers_of(web))


def big_of(web):
    """What each house has in all: more than can ever come through it."""
    return sum([room for begin, end, room in web[0]]) + 1


def lying(web, house):
    """The number of the house's lying tie."""
    return len(web[0]) + 2 * house


def standing(web, house):
    """The number of the house's standing tie."""
    return lying(web, house) + 1


def road_ties(web):
    """A tie for each road, in their order."""
    coming = in_doors(web)
    going = out_doors(web)
    houses = len(web[1])
    ties = []
    for road, (begin, end, room) in enumerate(web[0]):
        giver = houses + coming.index(road) if begin is None else begin
        taker = houses + going.index(road) if end is None else end
        ties.append((giver, taker, room))
    return tuple(ties)


def house_ties(web):
    """The lying and the standing tie of each house."""
    big = big_of(web)
    ties = []
    for house in range(len(web[1])):
        ties.extend([(house, house, big), (house, house, big)])
    return tuple(ties)


def givers_of(web):
    """A giver for each house, then one for each in-door."""
    big = big_of(web)
    seats = [(big, (lying(web, house), *order, standing(web, house))) for house, order in enumerate(web[1])]
    return tuple(seats + door_seats(web, in_doors(web)))


def takers_of(web):
    """A taker for each house, then one for each out-door."""
    big = big_of(web)
    seats = [(big, (standing(web, house), *order, lying(web, house))) for house, order in enumerate(web[2])]
    return tuple(seats + door_seats(web, out_doors(web)))


def door_seats(web, roads):
    """A seat for each of these doors, with just that road."""
    return [(web[0][road][2], (road,)) for road in roads]


def sharing_of(web, stream, lot):
    """The settled sharing of fair_of(web) for a stream and a lot that calms it."""
    big = big_of(web)
    bears = list(stream)
    for house, comes in enumerate(through(web, stream)):
        lacks = big - comes
        bears.extend([0, lacks] if house in lot else [lacks, 0])
    return tuple(bears)


def stream_of(web, sharing):
    """The stream of a settled sharing of fair_of(web), and the lot that calms it."""
    lot = tuple([house for house in range(len(web[1])) if sharing[standing(web, house)] > 0])
    return (tuple(sharing[:len(web[0])]), lot)


def calm(web):
    """A calm stream and the least lot that calms it."""
    return stream_of(web, settle(fair_of(web)))


def last_calm(web):
    """A calm stream and the greatest lot that calms it."""
    return stream_of(web, settle_back(fair_of(web)))
