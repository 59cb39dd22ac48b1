"""Feeds of values, and what many values come to."""

from underthree.kinds import is_positive, is_stretch
from underthree.needs import need
from underthree.operations import fits, is_operation, joined


def fits_feed(operation, thing):
    """Whether thing is a feed of the operation, which is one."""
    return isinstance(thing, tuple) and all([fits(operation, value) for value in thing])


def is_feed(operation, thing):
    """Whether thing is a tuple of values of the operation."""
    need(is_operation(operation), "operation")
    return fits_feed(operation, thing)


def folded(operation, values):
    """What the values, at least one, come to, joined in sequence; nothing is checked."""
    result = values[0]
    for value in values[1:]:
        result = joined(operation, result, value)
    return result


def fold(operation, feed):
    """What the values of feed come to, joined in sequence."""
    need(is_operation(operation), "operation")
    need(fits_feed(operation, feed) and len(feed) > 0, "feed")
    return folded(operation, feed)


def fold_of(operation, feed, stretch):
    """What the values of the elements of stretch come to, joined in sequence."""
    need(is_operation(operation), "operation")
    need(fits_feed(operation, feed), "feed")
    need(is_stretch(stretch) and stretch[1] <= len(feed), "stretch")
    return folded(operation, feed[stretch[0]:stretch[1]])


def joined_times(operation, value, many):
    """What many values come to, each of them value."""
    need(is_operation(operation), "operation")
    need(fits(operation, value), "value")
    need(is_positive(many), "many")
    result = value
    # Doubling, from the highest binary digit on, does a number of 30 figures in some two hundred joins.
    for digit in reversed(range(many.bit_length() - 1)):
        result = joined(operation, result, result)
        if (many >> digit) & 1 == 1:
            result = joined(operation, result, value)
    return result
