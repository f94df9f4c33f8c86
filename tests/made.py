"""What several tests make and look at: webs, fairs, odd things, and plain looks by the document's words."""

import copy
import itertools
import math
import random

from unturned.bounds import GREAT, HOUSES, ROADS


def deep(many, thing=None, wrap=lambda inner: (inner,)):
    """A thing within so many tuples (or what wrap makes)."""
    for level in range(many):
        thing = wrap(thing)
    return thing


def odd_things():
    """Things of every kind that may be handed in, none of them a web, stream, walk, fair, sharing or trail."""
    return [
        None, True, False, -1, 7, 10 ** 29, -(10 ** 29), "", "web", "a" * 400, "\n", [], {}, [()], {"a": ()},
        (None,), (True,), (False,), (-1,), (10 ** 29,), ("0",), ([],), ({},), ((),), ((), (), ()), [[], [], []],
        {"roads": (), "gives": (), "takes": ()}, ((), ((),)), (None, None, None), (True, True, True), ("a", "b", "c"),
        (0, 0, 0), deep(19), deep(19, 0, lambda inner: [inner]), deep(19, "x", lambda inner: {"a": inner}),
        tuple([0] * 3999), [0] * 3999, tuple([()] * 3999), {str(n): n for n in range(3000)},
    ]


PARTS = [None, True, False, -1, 0, 1, 2, 10 ** 29, -(10 ** 29), "", "1", [], {}, (), (0,), (True,), [0], (None,), {"a": 1},
         deep(10)]


def places(thing, path=()):
    """All paths within a thing of tuples, itself first."""
    yield path
    if isinstance(thing, tuple):
        for at, part in enumerate(thing):
            yield from places(part, path + (at,))


def part_at(thing, path):
    for at in path:
        thing = thing[at]
    return thing


def with_part(thing, path, part):
    """The thing of tuples with another part at that path."""
    if not path:
        return part
    at = path[0]
    return thing[:at] + (with_part(thing[at], path[1:], part),) + thing[at + 1:]


def bent(thing):
    """Things that are bent at just one place: another part there, a list for a tuple, one part more or less."""
    for path in list(places(thing)):
        here = part_at(thing, path)
        for part in PARTS:
            yield with_part(thing, path, part)
        if isinstance(here, tuple):
            yield with_part(thing, path, list(here))
            yield with_part(thing, path, here + (0,))
            yield with_part(thing, path, here + here[:1])
            yield with_part(thing, path, here[1:])
            yield with_part(thing, path, here[::-1])
        elif isinstance(here, int):
            yield with_part(thing, path, here + 1)
            yield with_part(thing, path, here - 1)
            yield with_part(thing, path, here == 1)
            yield with_part(thing, path, str(here))


def is_int(thing):
    return type(thing) is int


def unchanged(test, function, *handed, **named):
    """Asks twice, sees that both answers are alike and that nothing handed in was changed; tells the answer."""
    kept = copy.deepcopy(handed)
    said = repr(handed)
    answer = function(*handed, **named)
    told = repr(answer)
    again = function(*handed, **named)
    test.assertEqual(repr(again), told)
    test.assertEqual(repr(answer), told)
    test.assertEqual(handed, kept)
    test.assertEqual(repr(handed), said)
    return answer


def web_of(houses, roads, gives=None, takes=None):
    """A web of these roads; where no orders are told, each house likes its roads as they are numbered."""
    gives = dict(gives or {})
    takes = dict(takes or {})
    for house in range(houses):
        gives.setdefault(house, tuple(k for k, road in enumerate(roads) if road[0] == house))
        takes.setdefault(house, tuple(k for k, road in enumerate(roads) if road[1] == house))
    return (tuple(roads), tuple(gives[h] for h in range(houses)), tuple(takes[h] for h in range(houses)))


def mixed(dice, members):
    members = list(members)
    dice.shuffle(members)
    return tuple(members)


def any_web(dice, houses, roads, most, outside=1, least=0):
    """Some web; the greater outside is, the more doors it has; rooms from least to most."""
    ends = list(range(houses)) + [None] * outside
    rows = []
    while len(rows) < roads:
        begin, end = dice.choice(ends), dice.choice(ends)
        if begin != end:
            rows.append((begin, end, dice.randint(least, most)))
    gives = {h: mixed(dice, [k for k, row in enumerate(rows) if row[0] == h]) for h in range(houses)}
    takes = {h: mixed(dice, [k for k, row in enumerate(rows) if row[1] == h]) for h in range(houses)}
    return web_of(houses, rows, gives, takes)


def fair_from(ties, giver_much, taker_much, giver_orders=None, taker_orders=None):
    """A fair of these ties; where no orders are told, each seat likes its ties as they are numbered."""
    def seats(much, side, orders):
        orders = orders or {}
        return tuple((m, orders.get(s, tuple(k for k, tie in enumerate(ties) if tie[side] == s)))
                     for s, m in enumerate(much))
    return (tuple(ties), seats(giver_much, 0, giver_orders), seats(taker_much, 1, taker_orders))


def any_fair(dice, givers, takers, ties, most_room, most_much, least=0):
    rows = [(dice.randrange(givers), dice.randrange(takers), dice.randint(least, most_room)) for k in range(ties)]
    orders = [{s: mixed(dice, [k for k, row in enumerate(rows) if row[side] == s]) for s in range(many)}
              for side, many in ((0, givers), (1, takers))]
    return fair_from(rows, [dice.randint(least, most_much) for s in range(givers)],
                     [dice.randint(least, most_much) for s in range(takers)], *orders)


def dice_of(seed):
    return random.Random(seed)


# Three houses hand things round; each gives and takes by the ring gladly.
RING = web_of(3, [(0, 1, 4), (1, 2, 3), (2, 0, 2)])
# Doors, and a ring that houses like less for giving, and better for taking.
AGAINST = web_of(2, [(None, 0, 3), (0, 1, 9), (1, 0, 9), (1, None, 3)], {1: (3, 2)}, {0: (2, 0)})


def swaps(many, houses=4):
    """Houses two by two that send things to each other by roads that the one likes better as giver, the other as taker."""
    roads, gives, takes = [], {}, {}
    for one in range(0, houses, 2):
        at = len(roads)
        roads += [(one, one + 1, many), (one, one + 1, many), (one + 1, one, many), (one + 1, one, many)]
        gives[one], takes[one + 1] = (at, at + 1), (at + 1, at)
        gives[one + 1], takes[one] = (at + 2, at + 3), (at + 3, at + 2)
    return web_of(houses, roads, gives, takes)


def small_webs():
    dice = dice_of(41)
    for turn in range(60):
        yield any_web(dice, dice.randint(1, 3), dice.randint(1, 6), 2, outside=dice.randint(1, 3))
    for turn in range(30):
        yield any_web(dice, dice.randint(2, 4), dice.randint(4, 7), 1, least=1)
    for turn in range(15):
        yield any_web(dice, dice.randint(2, 4), dice.randint(3, 7), 1, outside=0, least=1)
    for web in (web_of(1, [(None, 0, 0)]), web_of(1, [(None, 0, 2)]), web_of(1, [(0, None, 2)]), web_of(2, [(0, 1, 3)]),
                RING, AGAINST, swaps(2, 2), swaps(1)):
        yield web


def great_webs():
    dice = dice_of(42)
    for outside in (0, 1, 2, 6):
        for turn in range(12):
            yield any_web(dice, HOUSES, ROADS, GREAT, outside=outside)
            yield any_web(dice, HOUSES, ROADS, GREAT, outside=outside, least=GREAT - 5)
            yield any_web(dice, dice.randint(2, 4), ROADS, GREAT, outside=outside, least=GREAT // 2)
    yield swaps(GREAT)
    yield swaps(GREAT, HOUSES)
    yield web_of(HOUSES, [(k % 8, (k + 1) % 8, GREAT) for k in range(ROADS)])
    yield web_of(1, [(None, 0, GREAT)] * 19 + [(0, None, GREAT)])
    yield web_of(1, [(None, 0, GREAT)] + [(0, None, GREAT)] * 19)
    yield web_of(2, [(None, 0, 1), (0, 1, GREAT), (1, 0, GREAT), (1, None, 1)], {1: (3, 2)}, {0: (2, 0)})
    yield web_of(2, [(None, 0, 1), (0, 1, GREAT), (1, 0, GREAT), (1, None, 1)], {1: (2, 3)}, {0: (0, 2)})


def many_rows(web):
    """How many rows of numbers within the rooms there are."""
    return math.prod(road[2] + 1 for road in web[0])


def ringing_webs():
    """Small webs, many with rings, so that there are several calm streams, with several lots each."""
    dice = dice_of(43)
    turn = 0
    while turn < 70:
        houses = dice.randint(2, 4)
        web = any_web(dice, houses, dice.randint(4, 8), dice.choice((1, 1, 2, 3)), outside=dice.choice((0, 0, 1, 2)),
                      least=dice.randint(0, 1))
        if many_rows(web) <= 600:
            turn += 1
            yield web
    yield from (RING, AGAINST, swaps(2, 2), swaps(1))
    # Two ways round, of houses that like them the other way about.
    yield web_of(3, [(0, 1, 1), (0, 2, 1), (1, 0, 1), (2, 0, 1)], {}, {0: (3, 2)})
    yield web_of(3, [(0, 1, 1), (0, 2, 1), (1, 0, 1), (2, 0, 1), (None, 0, 1), (0, None, 1)],
                 {0: (0, 5, 1)}, {0: (3, 4, 2)})


# Plain looks, written from the document alone.

def plain_stream(web, stream):
    roads, gives, takes = web
    if not all(0 <= bears <= road[2] for bears, road in zip(stream, roads)):
        return False
    return all(sum(b for b, road in zip(stream, roads) if road[1] == h)
               == sum(b for b, road in zip(stream, roads) if road[0] == h) for h in range(len(gives)))


def all_streams(web):
    for stream in itertools.product(*[range(road[2] + 1) for road in web[0]]):
        if plain_stream(web, stream):
            yield stream


def lesser(order, one):
    """Those that stand behind one in the order."""
    seen = False
    for number in order:
        if seen:
            yield number
        seen = seen or number == one


def all_walks(web, stream):
    """All walks, by [8]."""
    roads = web[0]
    free = [k for k, road in enumerate(roads) if stream[k] < road[2]]
    ahead = [(k,) for k in free]
    while ahead:
        walk = ahead.pop()
        yield walk
        end = roads[walk[-1]][1]
        if end is not None:
            ahead.extend(walk + (k,) for k in free if roads[k][0] == end and k not in walk)


def plain_turns(web, stream, walk):
    """Whether a walk turns the stream, by [8]."""
    roads, gives, takes = web
    begin, end = roads[walk[0]][0], roads[walk[-1]][1]
    gladly = begin is None or any(stream[k] > 0 for k in lesser(gives[begin], walk[0]))
    return gladly and (end is None or any(stream[k] > 0 for k in lesser(takes[end], walk[-1])))


def plain_calm(web, stream):
    return not any(plain_turns(web, stream, walk) for walk in all_walks(web, stream))


def calm_ones(web):
    """All calm streams, all walks of all streams gone through."""
    return [stream for stream in all_streams(web) if plain_calm(web, stream)]


def plain_calms(web, stream, lot):
    """Whether the lot calms the stream, by [9]."""
    roads, gives, takes = web
    for k, (begin, end, room) in enumerate(roads):
        if stream[k] == room:
            continue
        if begin is None or begin in lot or any(stream[j] > 0 for j in lesser(gives[begin], k)):
            if end not in lot or any(stream[j] > 0 for j in lesser(takes[end], k)):
                return False
    return True


def all_lots(web):
    houses = range(len(web[1]))
    for many in range(len(houses) + 1):
        yield from itertools.combinations(houses, many)


def all_pairs(web):
    """All pairs (stream, lot), a lot that calms the stream."""
    return [(stream, lot) for stream in all_streams(web) for lot in all_lots(web) if plain_calms(web, stream, lot)]


def plain_sharing(fair, sharing):
    ties, givers, takers = fair
    return (all(0 <= bears <= tie[2] for bears, tie in zip(sharing, ties))
            and all(sum(b for b, tie in zip(sharing, ties) if tie[0] == s) <= seat[0] for s, seat in enumerate(givers))
            and all(sum(b for b, tie in zip(sharing, ties) if tie[1] == s) <= seat[0] for s, seat in enumerate(takers)))


def all_sharings(fair):
    for sharing in itertools.product(*[range(tie[2] + 1) for tie in fair[0]]):
        if plain_sharing(fair, sharing):
            yield sharing


def plain_in_all(fair, sharing):
    return tuple(tuple(sum(b for b, tie in zip(sharing, fair[0]) if tie[side] == s)
                       for s in range(len(fair[side + 1]))) for side in (0, 1))


def plain_loose(fair, sharing):
    """The ties that loosen the sharing, by [12]."""
    ties = fair[0]
    has = plain_in_all(fair, sharing)
    told = []
    for k, tie in enumerate(ties):
        if sharing[k] == tie[2]:
            continue
        gladly = 0
        for side in (0, 1):
            much, order = fair[side + 1][tie[side]]
            gladly += has[side][tie[side]] < much or any(sharing[j] > 0 for j in lesser(order, k))
        if gladly == 2:
            told.append(k)
    return tuple(told)


def row_of(seat, sharing):
    """A seat's row, in its order: the greater one as Python orders tuples is the better liked one."""
    return tuple(sharing[k] for k in seat[1])


def done(fair, rows):
    """What there is behind each row of a trail, noughts first."""
    bears = [0] * len(fair[0])
    told = [tuple(bears)]
    for ties, many in rows:
        for at, tie in enumerate(ties):
            bears[tie] += many if at % 2 == 0 else -many
        told.append(tuple(bears))
    return told
