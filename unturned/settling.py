"""Settled sharings, and trails of rows that lead to them.

Givers turn to the ties that they like best. A taker that is full gives up, for a unit by a tie
that it likes better, a unit by the one that it likes least of those that bear something; the giver of
that one then turns to its next best tie, and so on. A row does all this at once, as many units as can
go the same way. A tie that is once full is never filled again, and one that was once given up is never
taken up again. Each row fills a tie, empties one, fills a taker, or uses up what a giver had to spare,
so there are at most two rows for each tie and one for each seat, however great the numbers are.
"""

from unturned.fairs import is_sharing, loose, spare, turned_fair, would_have
from unturned.plain import is_number, is_number_to, is_tuple_of


def settle(fair):
    """The settled sharing that is best for givers."""
    sharing = noughts(fair)
    for row in trail(fair):
        sharing = behind_row(sharing, row)
    return tuple(sharing)


def settle_back(fair):
    """The settled sharing that is best for takers."""
    return settle(turned_fair(fair))


def trail(fair):
    """Rows (ties, many) that lead from noughts to settle(fair)."""
    return rows_behind(fair, noughts(fair))


def rows_behind(fair, sharing):
    """Rows (ties, many) that lead on from this sharing until no giver has a tie to turn to."""
    rows = []
    row = next_row(fair, sharing)
    while row is not None:
        rows.append(row)
        sharing = behind_row(sharing, row)
        row = next_row(fair, sharing)
    return tuple(rows)


def trail_holds(fair, thing):
    """Whether it is a tuple of rows, with a sharing behind each, behind which there is a settled one."""
    if not isinstance(thing, tuple):
        return False
    sharing = noughts(fair)
    for row in thing:
        if not is_row(fair, row):
            return False
        sharing = behind_row(sharing, row)
        if not is_sharing(fair, tuple(sharing)):
            return False
    return len(loose(fair, sharing)) == 0


def noughts(fair):
    """What all ties bear ahead of a trail."""
    return [0 for tie in fair[0]]


def is_row(fair, thing):
    """Whether it is a tuple (ties, many), ties one or more, many from 1 on."""
    if not is_tuple_of(thing, 2, 2) or not isinstance(thing[0], tuple) or len(thing[0]) == 0:
        return False
    ties, many = thing
    return is_number(many) and many >= 1 and all([is_number_to(tie, len(fair[0]) - 1) for tie in ties])


def behind_row(sharing, row):
    """What the ties bear behind a row: its ties by turns many more and many less, the first one more."""
    ties, many = row
    bears = list(sharing)
    more = many
    for tie in ties:
        bears[tie] += more
        more = -more
    return bears


def next_row(fair, sharing):
    """The row of the first giver with something to spare that has a tie to turn to, or None."""
    for giver, seat in enumerate(fair[1]):
        if spare(seat, sharing) > 0 and wanted(fair, sharing, giver) is not None:
            return row_from(fair, sharing, giver)
    return None


def wanted(fair, sharing, giver):
    """The tie that the giver likes best of those with room left whose takers would have more, or None."""
    ties, givers, takers = fair
    for tie in givers[giver][1]:
        taker, room = ties[tie][1:]
        if sharing[tie] < room and would_have(takers[taker], sharing, tie):
            return tie
    return None


def row_from(fair, sharing, giver):
    """The row by which as many units as can go the same way go on from this giver."""
    ties, ring = ties_from(fair, sharing, giver)
    limits = tie_limits(fair, sharing, ties)
    if not ring:
        limits.append(spare(fair[1][giver], sharing))
        # With as many less as more, the last unit was given up and nobody else takes it up.
        if len(ties) % 2 == 1:
            limits.append(spare(last_taker(fair, ties), sharing))
    return (tuple(ties), min(limits))


def ties_from(fair, sharing, giver):
    """The ties that a unit of this giver goes by, and whether they are a ring.

    A unit that comes to a giver again goes round until a tie on the ring is full or empty. Then only the
    ring is told: the unit that set it going is left where it was, and goes its way by a later row.
    """
    ties = []
    began = {}
    while giver not in began:
        began[giver] = len(ties)
        tie = wanted(fair, sharing, giver)
        if tie is None:
            return (ties, False)
        ties.append(tie)
        taker = last_taker(fair, ties)
        if spare(taker, sharing) > 0:
            return (ties, False)
        ties.append(least_liked(taker, sharing))
        giver = fair[0][ties[-1]][0]
    return (ties[began[giver]:], True)


def last_taker(fair, ties):
    """The taker of the last of these ties."""
    return fair[2][fair[0][ties[-1]][1]]


def least_liked(taker, sharing):
    """The tie that the taker likes least of those that bear something."""
    return [tie for tie in taker[1] if sharing[tie] > 0][-1]


def tie_limits(fair, sharing, ties):
    """For each of the ties, by turns, how much more and how much less it can bear."""
    return [fair[0][tie][2] - sharing[tie] if at % 2 == 0 else sharing[tie] for at, tie in enumerate(ties)]
