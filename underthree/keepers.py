"""The programs that cuttings tell."""

from underthree.chains import chain_of
from underthree.cuttingkinds import is_cutting
from underthree.needs import need


def cutting_program(cutting):
    """The program that keeps windows of one element less than there are corners, each begin in its own register."""
    need(is_cutting(cutting), "cutting")
    corners = cutting[0]
    phases = []
    for step in range(1, corners + 1):
        rows = [(kept_in(corners, step - 1), 0)] + chain_rows(cutting, step)
        phases.append((tuple(rows), kept_in(corners, step + 1)))
    return (corners + 1, tuple(phases))


def kept_in(corners, place):
    """Where the stretch that begins at the place is kept."""
    return 1 + place % corners


def chain_rows(cutting, place):
    """The list of the join rows of the chain of the place."""
    corners = cutting[0]
    pairs = [(kept_in(corners, begin), kept_in(corners, ahead)) for begin, ahead in chain_of(cutting, place)]
    return [(begin, begin, ahead) for begin, ahead in pairs]
