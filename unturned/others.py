"""Webs led to other webs."""

from unturned.bounds import GREAT, HOUSES, ROADS
from unturned.errors import BadOrder, Full, NoRoads, TooGreat
from unturned.plain import exchanged, is_order


def turned(web):
    """Each road the other way about, gives and takes exchanged."""
    roads, gives, takes = web
    return (tuple([(end, begin, room) for begin, end, room in roads]), takes, gives)


def times(web, k):
    """The web with each room k times as great."""
    roads, gives, takes = web
    greater = tuple([(begin, end, room * k) for begin, end, room in roads])
    if any([room > GREAT for begin, end, room in greater]):
        raise TooGreat()
    return (greater, gives, takes)


def beside(one, other):
    """The houses and roads of the other web behind those of the first one."""
    roads = len(one[0])
    houses = len(one[1])
    check_many(houses + len(other[1]), roads + len(other[0]))
    further = tuple([(end_beside(begin, houses), end_beside(end, houses), room) for begin, end, room in other[0]])
    return (one[0] + further, one[1] + orders_beside(other[1], roads), one[2] + orders_beside(other[2], roads))


def check_many(houses, roads):
    """Full where these are too many."""
    if houses > HOUSES or roads > ROADS:
        raise Full()


def end_beside(end, houses):
    """Where a road begins or ends behind so many houses."""
    return None if end is None else end + houses


def orders_beside(orders, roads):
    """The orders behind so many roads."""
    return tuple([tuple([road + roads for road in order]) for order in orders])


def cut(web, road):
    """A new house lies on that road, and a further road goes on from there."""
    roads, gives, takes = web
    house = len(gives)
    further = len(roads)
    check_many(house + 1, further + 1)
    begin, end, room = roads[road]
    coming = tuple([tuple([further if number == road else number for number in order]) for order in takes])
    return (exchanged(roads, road, (begin, house, room)) + ((house, end, room),),
            gives + ((further,),), coming + ((road,),))


def parted(web, road, room):
    """The road keeps that room, and a further one beside it has what is left."""
    roads, gives, takes = web
    further = len(roads)
    check_many(len(gives), further + 1)
    begin, end, had = roads[road]
    return (exchanged(roads, road, (begin, end, room)) + ((begin, end, had - room),),
            orders_with(gives, road, further), orders_with(takes, road, further))


def orders_with(orders, road, further):
    """The orders with the further road just behind the road."""
    return tuple([order_with(order, road, further) for order in orders])


def order_with(order, road, further):
    """The order with the further road just behind the road, if that one is there."""
    if road not in order:
        return order
    behind = order.index(road) + 1
    return order[:behind] + (further,) + order[behind:]


def without(web, road):
    """The web without that road."""
    roads, gives, takes = web
    if len(roads) == 1:
        raise NoRoads()
    return (roads[:road] + roads[road + 1:], orders_without(gives, road), orders_without(takes, road))


def orders_without(orders, road):
    """The orders without that road, later ones' numbers one less."""
    return tuple([tuple([number - 1 if number > road else number for number in order if number != road])
                  for order in orders])


def liked_less(web, road, *, giving=True):
    """The web in which the house where the road begins (giving) or ends likes it least."""
    house = web[0][road][0 if giving else 1]
    if house is None:
        return web
    order = web[order_place(giving)][house]
    least = tuple([number for number in order if number != road]) + (road,)
    return with_like(web, house, least, giving=giving)


def with_like(web, house, order, *, giving=True):
    """The web with that order of the roads by which the house gives, or takes."""
    place = order_place(giving)
    orders = web[place]
    if not is_order(order, sorted(orders[house])):
        raise BadOrder()
    return exchanged(web, place, exchanged(orders, house, order))


def order_place(giving):
    """Where a web has the orders of giving, or taking."""
    return 1 if giving else 2
