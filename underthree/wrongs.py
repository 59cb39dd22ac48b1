"""Where a plan is wrong, and the checker of what shows it."""

from underthree.folds import fits_feed, folded
from underthree.grades import GRADES, first_wrong, proof_of, suits_asks
from underthree.kinds import is_asks, is_group, is_number
from underthree.needs import need, refuse
from underthree.operations import is_operation
from underthree.plankinds import is_plan
from underthree.planruns import values_of_names


def wrong_at(plan, asks, grade):
    """The place of the first ask with a wrong answer, None if there is none."""
    _need_suiting(plan, asks)
    need(grade in GRADES, "grade")
    return first_wrong(plan, asks, grade)


def parting_of(plan, asks, grade):
    """The place of the first wrong answer, with the operation and the feed that show it; or None."""
    _need_suiting(plan, asks)
    need(grade in GRADES, "grade")
    at = first_wrong(plan, asks, grade)
    if at is None:
        return None
    operation, feed = proof_of(grade, plan[0])
    return (at, operation, feed)


def lets_parting(plan, asks, thing):
    """The pair of the answer and of what is due, which thing shows to be unlike."""
    _need_suiting(plan, asks)
    refuse(_parting_fault(plan, asks, thing))
    answer, due = _answer_and_due(plan, asks, thing)
    if answer == due:
        refuse(("alike", -1))
    return (answer, due)


def _need_suiting(plan, asks):
    need(is_plan(plan), "plan")
    need(is_asks(asks) and suits_asks(plan, asks), "asks")


def _parting_fault(plan, asks, thing):
    if not is_group(thing, 3):
        return ("shape", -1)
    at, operation, feed = thing
    if not is_number(at) or at >= len(asks):
        return ("ask", -1)
    if not is_operation(operation):
        return ("operation", -1)
    if not fits_feed(operation, feed) or len(feed) != plan[0]:
        return ("feed", -1)
    return None


def _answer_and_due(plan, asks, parting):
    at, operation, feed = parting
    low, high = asks[at]
    answer = values_of_names(plan, operation, feed)[plan[2][at]]
    return (answer, folded(operation, feed[low:high]))
