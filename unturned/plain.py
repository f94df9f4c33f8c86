"""What several files ask of numbers, tuples and orders."""


def is_number(thing):
    """Whether it is a whole number: Python takes truths for numbers, this program doesn't."""
    return isinstance(thing, int) and not isinstance(thing, bool)


def is_number_to(thing, most):
    """Whether it is a number from 0 to most."""
    return is_number(thing) and 0 <= thing <= most


def is_tuple_of(thing, least, most):
    """Whether it is a tuple of least to most things."""
    return isinstance(thing, tuple) and least <= len(thing) <= most


def is_order(thing, numbers):
    """Whether it is a tuple with just the numbers of a rising list, each once, in any order."""
    return isinstance(thing, tuple) and all([is_number(number) for number in thing]) and sorted(thing) == numbers


def borne(bears, numbers):
    """How much the roads, or ties, of these numbers bear together."""
    return sum([bears[number] for number in numbers])


def has_less_liked(bears, order, number):
    """Whether something is borne by a road, or tie, that stands behind this one in the order."""
    return borne(bears, order[order.index(number) + 1:]) > 0


def exchanged(things, at, thing):
    """The tuple with another thing at this place."""
    return things[:at] + (thing,) + things[at + 1:]
