"""What a plan comes to for a feed."""

from underthree.folds import fits_feed
from underthree.needs import need
from underthree.operations import is_operation, joined
from underthree.plankinds import is_plan


def run_plan(plan, operation, feed):
    """The values of the answers."""
    _need_run(plan, operation, feed)
    values = values_of_names(plan, operation, feed)
    return tuple([values[answer] for answer in plan[2]])


def run_names(plan, operation, feed):
    """The values of all names."""
    _need_run(plan, operation, feed)
    return tuple(values_of_names(plan, operation, feed))


def values_of_names(plan, operation, feed):
    """The list of the values of all names; nothing is checked."""
    values = list(feed)
    for one, other in plan[1]:
        values.append(joined(operation, values[one], values[other]))
    return values


def _need_run(plan, operation, feed):
    need(is_plan(plan), "plan")
    need(is_operation(operation), "operation")
    need(fits_feed(operation, feed) and len(feed) == plan[0], "feed")
