"""What the first answers of a program cost more than the least."""

from underthree.excesses import excess_of
from underthree.means import first_least
from underthree.steadies import steady_asks
from underthree.unrolled import plan_of


def first_over(program, width, hop, many):
    """How many joins the first many answers cost more than the least."""
    size, joins, answers = plan_of(program, width, hop, many)
    return len(joins) - first_least(width, hop, many)


def over_parts(program, width, hop, many):
    """The repeats, the strays, and what the falls are above the gains."""
    return excess_of(plan_of(program, width, hop, many), steady_asks(width, hop, many))
