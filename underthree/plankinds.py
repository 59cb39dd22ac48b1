"""What is a plan, and its checker."""

from underthree.kinds import is_group, is_number, is_positive
from underthree.needs import refuse


def is_plan(thing):
    """Whether thing is a plan."""
    return plan_fault(thing) is None


def lets_plan(thing):
    """How many joins thing, a plan, has."""
    refuse(plan_fault(thing))
    return len(thing[1])


def plan_fault(thing):
    """None for a plan, else the word and the place of its first fault."""
    if not is_group(thing, 3):
        return ("shape", -1)
    size, joins, answers = thing
    if not is_positive(size):
        return ("size", -1)
    if not isinstance(joins, tuple):
        return ("joins", -1)
    for at, join in enumerate(joins):
        if not _is_join(join, size + at):
            return ("join", at)
    if not isinstance(answers, tuple):
        return ("answers", -1)
    for at, answer in enumerate(answers):
        if not _is_name(answer, size + len(joins)):
            return ("answer", at)
    return None


def _is_join(thing, bound):
    return is_group(thing, 2) and all([_is_name(side, bound) for side in thing])


def _is_name(thing, bound):
    return is_number(thing) and thing < bound
