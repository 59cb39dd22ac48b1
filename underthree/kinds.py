"""What is an integer, a number, a quotient, a stretch, a lot, a row of asks, a queue's row."""

from math import gcd


def is_integer(thing):
    """Whether thing is an int that is not a bool."""
    return isinstance(thing, int) and not isinstance(thing, bool)


def is_number(thing):
    """Whether thing is an integer of at least 0."""
    return is_integer(thing) and thing >= 0


def is_positive(thing):
    """Whether thing is an integer of at least 1."""
    return is_integer(thing) and thing >= 1


def is_group(thing, many):
    """Whether thing is a tuple of so many values."""
    return isinstance(thing, tuple) and len(thing) == many


def is_quotient(thing):
    """Whether thing is a pair (top, bottom) without a common divisor above 1."""
    if not is_group(thing, 2):
        return False
    top, bottom = thing
    return is_integer(top) and is_positive(bottom) and gcd(top, bottom) == 1


def is_stretch(thing):
    """Whether thing is a pair (low, high) of numbers, low below high."""
    if not is_group(thing, 2):
        return False
    low, high = thing
    return is_number(low) and is_number(high) and low < high


def is_rising(values):
    """Whether each of the values, which can be compared, is above the one before it."""
    return all([one < other for one, other in zip(values, values[1:])])


def is_lot(thing):
    """Whether thing is an ascending tuple of different numbers."""
    if not isinstance(thing, tuple) or not all([is_number(value) for value in thing]):
        return False
    return is_rising(thing)


def is_lots(thing):
    """Whether thing is an ascending tuple of different lots of two or more elements."""
    if not isinstance(thing, tuple) or not all([is_lot(lot) for lot in thing]):
        return False
    return is_rising(thing) and all([len(lot) >= 2 for lot in thing])


def asks_fault(thing):
    """None for a row of asks, else the word and the place of its first fault."""
    if not isinstance(thing, tuple):
        return ("shape", -1)
    for at, ask in enumerate(thing):
        if not is_stretch(ask):
            return ("ask", at)
        if at > 0 and not thing[at - 1] < ask:
            return ("order", at)
    return None


def is_asks(thing):
    """Whether thing is an ascending tuple of different stretches."""
    return asks_fault(thing) is None


def is_queue(thing):
    """Whether thing is a row of asks in which no later begin has an earlier end."""
    if not is_asks(thing):
        return False
    # The row is ascending, so an end can fall only from one begin to a later one.
    return all([one[1] <= other[1] for one, other in zip(thing, thing[1:])])


def crossed_asks(asks):
    """None for a queue's row, else the first two asks of which the second one lies too early."""
    for at, one in enumerate(asks):
        for other in asks[at + 1:]:
            # An ask with the same begin stands behind this one only with a greater end.
            if other[1] < one[1]:
                return (one, other)
    return None
