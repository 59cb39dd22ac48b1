"""On which joins hangs what a program tells."""

from underthree.kinds import is_positive
from underthree.needs import need
from underthree.programkinds import is_program
from underthree.unfolding import joins_under, unfolded


def trace_of(program, step):
    """The pairs of step and row of the joins on which hangs what is told at the step."""
    joins, hung = _traced(program, step)
    return tuple([joins[at][:2] for at in hung])


def trace_depth(program, step):
    """How many of these joins stand one in the other at most."""
    joins, hung = _traced(program, step)
    depths = {}
    for at in hung:
        left, right = joins[at][2:]
        depths[step + at] = 1 + max(depths.get(left, 0), depths.get(right, 0))
    return max(depths.values(), default=0)


def _traced(program, step):
    """The joins of the steps up to this one, and the places of those on which hangs what it tells."""
    need(is_program(program), "program")
    need(is_positive(step), "step")
    joins, told = unfolded(program, step)
    return (joins, joins_under(joins, step, told[-1:]))
