"""Whether a plan is right for a row of asks, and for which operations."""

from underthree.feeds import bit_feed, count_feed, span_feed
from underthree.folds import folded
from underthree.kinds import is_asks
from underthree.needs import need
from underthree.operations import idle_pair, is_operation
from underthree.plankinds import is_plan
from underthree.planruns import values_of_names

# From the greatest demand to the least: a plan that is right for one is right for those behind it.
GRADES = ("all", "commuting", "same")


def suits(plan, asks):
    """Whether the plan has an answer for each ask, and all elements of the asks."""
    _need_both(plan, asks)
    return suits_asks(plan, asks)


def right_all(plan, asks):
    """Whether the plan suits the asks and is right for all operations."""
    _need_both(plan, asks)
    return _is_right(plan, asks, "all")


def right_commuting(plan, asks):
    """Whether the plan suits the asks and is right for all operations that commute."""
    _need_both(plan, asks)
    return _is_right(plan, asks, "commuting")


def right_same(plan, asks):
    """Whether the plan suits the asks and is right for all operations that commute and keep same."""
    _need_both(plan, asks)
    return _is_right(plan, asks, "same")


def grade_of(plan, asks):
    """The first word for which the plan is right, None if there is none."""
    _need_both(plan, asks)
    for grade in GRADES:
        if _is_right(plan, asks, grade):
            return grade
    return None


def right_idle(plan, asks, operation):
    """Whether the plan suits the asks and is right on all feeds of one y among x, an idle pair."""
    _need_both(plan, asks)
    need(is_operation(operation) and idle_pair(operation) is not None, "operation")
    # What is made of x alone is x, and with a y among them it is y, in any sequence and however often:
    # so the feeds tell just in which answers each element is, and no pair tells more.
    return _is_right(plan, asks, "same")


def suits_asks(plan, asks):
    """Whether the plan suits the asks; nothing is checked."""
    size, _, answers = plan
    return len(answers) == len(asks) and all([ask[1] <= size for ask in asks])


def proof_of(grade, size):
    """The one operation of the grade, and its one feed."""
    if grade == "all":
        return span_feed(size)
    if grade == "commuting":
        return count_feed(size)
    return bit_feed(size)


def first_wrong(plan, asks, grade):
    """The place of the first ask, of those the plan suits, with a wrong answer; None without one."""
    operation, feed = proof_of(grade, plan[0])
    values = values_of_names(plan, operation, feed)
    for at, ask in enumerate(asks):
        due = folded(operation, feed[ask[0]:ask[1]])
        if values[plan[2][at]] != due:
            return at
    return None


def _need_both(plan, asks):
    need(is_plan(plan), "plan")
    need(is_asks(asks), "asks")


def _is_right(plan, asks, grade):
    return suits_asks(plan, asks) and first_wrong(plan, asks, grade) is None
