"""The plans that programs come to."""

from underthree.kinds import is_positive
from underthree.needs import need
from underthree.unfolding import unfolded
from underthree.verdicts import need_right


def plan_of(program, width, hop, many):
    """The plan of the first many answers."""
    need_right(program, width, hop)
    need(is_positive(many), "many")
    size = width + (many - 1) * hop
    joins, told = unfolded(program, size)
    pairs = tuple([(left, right) for step, place, left, right in joins])
    return (size, pairs, tuple([told[step - 1] for step in range(width, size + 1, hop)]))
