"""Rows of asks that are made of other ones."""

from underthree.askrows import asks_of, longest_end
from underthree.kinds import is_asks, is_number, is_positive
from underthree.needs import need


def mirrored(asks, size):
    """The row as it is seen from the other end of so many elements."""
    need(is_asks(asks), "asks")
    need(is_positive(size) and size >= longest_end(asks), "size")
    return tuple(sorted([(size - high, size - low) for low, high in asks]))


def stretched(asks, counts):
    """The row with each element made as many elements as its count tells."""
    need(is_asks(asks), "asks")
    need(are_counts(counts) and len(counts) >= longest_end(asks), "counts")
    sums = sums_of(counts)
    return tuple([(sums[low], sums[high]) for low, high in asks])


def are_counts(thing):
    """Whether thing is a tuple of integers of at least 1."""
    return isinstance(thing, tuple) and all([is_positive(count) for count in thing])


def sums_of(counts):
    """The list of what the first counts come to, from none of them to all."""
    sums = [0]
    for count in counts:
        sums.append(sums[-1] + count)
    return sums


def merged(asks, other):
    """The row of the asks of both rows."""
    need(is_asks(asks), "asks")
    need(is_asks(other), "other")
    both = asks + other
    return asks_of(*both)


def moved(asks, many):
    """The row with all begins and ends grown by many."""
    need(is_asks(asks), "asks")
    need(is_number(many), "many")
    return tuple([(low + many, high + many) for low, high in asks])


def kept_within(asks, low, high):
    """The row of the asks that lie within the stretch (low, high)."""
    need(is_asks(asks), "asks")
    need(is_number(low), "low")
    need(is_number(high) and high > low, "high")
    return tuple([ask for ask in asks if low <= ask[0] and ask[1] <= high])


def without_ask(asks, at):
    """The row without the ask at this place."""
    need(is_asks(asks), "asks")
    need(is_number(at) and at < len(asks), "at")
    return asks[:at] + asks[at + 1:]
