"""Two settled sharings, and what givers like better of them."""


def both_liked(fair, one, other):
    """The settled sharing with the row of each giver that it likes better, and that with the other ones."""
    ties, givers, takers = fair
    firsts = [row_of(seat, one) >= row_of(seat, other) for seat in givers]
    better = tuple([one[tie] if firsts[giver] else other[tie] for tie, (giver, taker, room) in enumerate(ties)])
    worse = tuple([other[tie] if firsts[giver] else one[tie] for tie, (giver, taker, room) in enumerate(ties)])
    return (better, worse)


def row_of(seat, sharing):
    """What the seat's ties bear, in its order: of two such lists it likes the one better that Python has as greater."""
    much, order = seat
    return [sharing[tie] for tie in order]
