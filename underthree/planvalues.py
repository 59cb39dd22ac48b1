"""What each name of a plan is made of: its span, its lot, its counts."""

from underthree.feeds import bit_feed, count_feed, span_feed
from underthree.needs import need
from underthree.plankinds import is_plan
from underthree.planruns import values_of_names


def spans_of(plan):
    """The span of each name."""
    need(is_plan(plan), "plan")
    operation, feed = span_feed(plan[0])
    return tuple(values_of_names(plan, operation, feed))


def lots_of(plan):
    """The lot of each name."""
    need(is_plan(plan), "plan")
    operation, feed = bit_feed(plan[0])
    return tuple([_lot_of_bits(bits) for bits in values_of_names(plan, operation, feed)])


def counts_of(plan):
    """How often each element is in each name."""
    need(is_plan(plan), "plan")
    operation, feed = count_feed(plan[0])
    return tuple(values_of_names(plan, operation, feed))


def _lot_of_bits(bits):
    return tuple([element for element in range(bits.bit_length()) if (bits >> element) & 1 == 1])
