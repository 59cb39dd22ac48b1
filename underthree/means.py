"""What steady windows cost at least, in the mean and in their first answers."""

from underthree.chordsums import least_first
from underthree.kinds import is_number, is_positive
from underthree.needs import need
from underthree.programkinds import is_program
from underthree.programruns import counts_by_phase
from underthree.quotients import quotient_of


def blocks_of(width, hop):
    """How many whole hops the width has, and what is left of it."""
    _need_hop(width, hop)
    return (width // hop, width % hop)


def program_mean(program, hop):
    """How many join rows the program has for each asked step, in the mean."""
    need(is_program(program), "program")
    need(is_positive(hop), "hop")
    counts = counts_by_phase(program)
    return quotient_of(sum(counts) * hop, len(counts))


def least_mean(width, hop):
    """The least mean of a program that is right for ever for (width, hop)."""
    blocks, rest = blocks_of(width, hop)
    if blocks == 0:
        return (width - 1, 1)
    whole = hop + 2 if rest == 0 else hop + 3
    return quotient_of(whole * (blocks + 1) - 6, blocks + 1)


def first_least(width, hop, many):
    """The least of the first many asks (width, hop)."""
    blocks, rest = blocks_of(width, hop)
    need(is_number(many), "many")
    if many == 0:
        return 0
    if blocks == 0:
        return many * (width - 1)
    if rest == 0:
        return (many + blocks - 1) * (hop - 1) + least_first(blocks, many)
    further = 2 * (many - blocks) if many >= blocks else many - blocks
    return (many - 1) * (hop - 2) + width - 1 + least_first(blocks, many) + further


def hop_first(width, hop, many):
    """What the first many answers cost if each one ends with what has come of the next block."""
    _need_hop(width, hop)
    need(hop <= width, "hop")
    need(is_number(many), "many")
    blocks, rest = blocks_of(width, hop)
    if rest == 0 or many == 0:
        return first_least(width, hop, many)
    return first_least(width, hop, many) + min(many, blocks) - 1


def ready_mean(width):
    """The mean of programs whose answers are one join behind the coming of the last element."""
    _need_two(width)
    return quotient_of(4 * width - 6, width)


def ready_first(width, many):
    """What the first many answers cost then."""
    _need_two(width)
    need(is_number(many), "many")
    return many + least_first(width - 1, many)


def _need_hop(width, hop):
    need(is_positive(width), "width")
    need(is_positive(hop), "hop")


def _need_two(width):
    need(is_positive(width) and width >= 2, "width")
