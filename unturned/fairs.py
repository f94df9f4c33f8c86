"""Fairs of givers and takers, and their sharings."""

from unturned.bounds import FAR, SEATS, TIES
from unturned.plain import borne, has_less_liked, is_number_to, is_order, is_tuple_of


def is_fair(thing):
    """Whether it is a tuple (ties, givers, takers) by the bounds, with orders that fit the ties."""
    if not is_tuple_of(thing, 3, 3):
        return False
    ties, givers, takers = thing
    if not is_tuple_of(ties, 0, TIES) or not is_tuple_of(givers, 1, SEATS) or not is_tuple_of(takers, 1, SEATS):
        return False
    if not all([is_tie(tie, len(givers), len(takers)) for tie in ties]):
        return False
    return are_seats(givers, [tie[0] for tie in ties]) and are_seats(takers, [tie[1] for tie in ties])


def is_tie(thing, givers, takers):
    """Whether it is a tuple (giver, taker, room), where there are so many givers and takers."""
    if not is_tuple_of(thing, 3, 3):
        return False
    giver, taker, room = thing
    return is_number_to(giver, givers - 1) and is_number_to(taker, takers - 1) and is_number_to(room, FAR)


def are_seats(seats, sitting):
    """Whether each is a seat (much, order); sitting has for each tie its seat of this side."""
    return all([is_seat(seat, [tie for tie, other in enumerate(sitting) if other == number])
                for number, seat in enumerate(seats)])


def is_seat(thing, ties):
    """Whether it is a tuple (much, order) with an order of just these ties."""
    return is_tuple_of(thing, 2, 2) and is_number_to(thing[0], FAR) and is_order(thing[1], ties)


def is_sharing(fair, thing):
    """Whether it is a tuple with what each tie bears, within its room and the much of both its seats."""
    ties, givers, takers = fair
    if not is_tuple_of(thing, len(ties), len(ties)):
        return False
    if not all([is_number_to(bears, tie[2]) for bears, tie in zip(thing, ties)]):
        return False
    return all([spare(seat, thing) >= 0 for seat in givers + takers])


def spare(seat, sharing):
    """By how much the seat has less than its much."""
    much, order = seat
    return much - borne(sharing, order)


def in_all(fair, sharing):
    """How much each giver has in all, and how much each taker has."""
    return (side_in_all(fair[1], sharing), side_in_all(fair[2], sharing))


def side_in_all(seats, sharing):
    """How much each of these seats has in all."""
    return tuple([borne(sharing, order) for much, order in seats])


def loose(fair, sharing):
    """The ties that loosen the sharing, rising."""
    ties, givers, takers = fair
    return tuple([number for number, (giver, taker, room) in enumerate(ties) if sharing[number] < room
                  and would_have(givers[giver], sharing, number) and would_have(takers[taker], sharing, number)])


def would_have(seat, sharing, tie):
    """Whether the seat would gladly have a unit more by this tie of its own."""
    return spare(seat, sharing) > 0 or has_less_liked(sharing, seat[1], tie)


def turned_fair(fair):
    """The fair with givers and takers exchanged."""
    ties, givers, takers = fair
    return (tuple([(taker, giver, room) for giver, taker, room in ties]), takers, givers)
