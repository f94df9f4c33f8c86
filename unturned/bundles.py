"""Streams as bundles of ways and rings."""

from unturned.plain import is_number, is_tuple_of
from unturned.walks import is_path
from unturned.webs import in_doors


def bundle(web, stream):
    """Rows (roads, many) that bear together what the stream bears.

    Behind each row one road more bears nothing, so that there are no more rows than roads, all unlike.
    """
    left = list(stream)
    rows = []
    first = first_bearing(web, left)
    while first is not None:
        roads = way_or_ring(web, left, first)
        many = min([left[road] for road in roads])
        rows.append((roads, many))
        for road in roads:
            left[road] -= many
        first = first_bearing(web, left)
    return tuple(rows)


def first_bearing(web, left):
    """The first in-door that bears something, else the first road that does, else None."""
    bearing = [road for road in list(in_doors(web)) + list(range(len(left))) if left[road] > 0]
    return bearing[0] if len(bearing) > 0 else None


def way_or_ring(web, left, first):
    """From this road on along roads that bear something: a way, or the ring that is come to ahead of its end."""
    roads, gives, takes = web
    gone = [first]
    end = roads[first][1]
    while end is not None:
        begins = [roads[road][0] for road in gone]
        if end in begins:
            return from_least(gone[begins.index(end):])
        gone.append([road for road in gives[end] if left[road] > 0][0])
        end = roads[gone[-1]][1]
    return tuple(gone)


def from_least(ring):
    """The ring told from its least road on."""
    at = ring.index(min(ring))
    return tuple(ring[at:] + ring[:at])


def bundle_holds(web, stream, thing):
    """Whether it is a bundle of the stream."""
    if not is_tuple_of(thing, 0, len(web[0])) or not all([is_bundle_row(web, row) for row in thing]):
        return False
    if len({roads for roads, many in thing}) < len(thing):
        return False
    return borne_by(web, thing) == list(stream)


def is_bundle_row(web, thing):
    """Whether it is a tuple (roads, many), roads a way or a ring, many from 1 on."""
    if not is_tuple_of(thing, 2, 2):
        return False
    roads, many = thing
    return is_number(many) and many >= 1 and is_way_or_ring(web, roads)


def is_way_or_ring(web, thing):
    """Whether it is a way, or a ring told from its least road on."""
    if not is_path(web, thing):
        return False
    begins = [web[0][road][0] for road in thing]
    if len(set(begins)) < len(begins) or web[0][thing[-1]][1] != begins[0]:
        return False
    # What goes from outside to outside is a way, and has its order by that.
    return begins[0] is None or thing[0] == min(thing)


def borne_by(web, rows):
    """What each road bears by all these rows together."""
    bears = [0 for road in web[0]]
    for roads, many in rows:
        for road in roads:
            bears[road] += many
    return bears
