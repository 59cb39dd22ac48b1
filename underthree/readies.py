"""Programs with few phases, and programs whose answers are ready early."""

from math import gcd

from underthree.chains import chain_of
from underthree.cuttingkinds import is_cutting
from underthree.keepers import chain_rows, kept_in
from underthree.kinds import is_positive
from underthree.needs import need
from underthree.turns import least_turn


def shifted_program(cutting):
    """The program of the cutting that moves all it keeps in each step, so that turns into itself need no phases."""
    need(is_cutting(cutting), "cutting")
    corners = cutting[0]
    shifts = tuple([(age + 1, age) for age in range(corners - 2, -1, -1)])
    phases = []
    for step in range(1, least_turn(cutting) + 1):
        pairs = [(step - begin, step - ahead) for begin, ahead in chain_of(cutting, step)]
        phases.append((shifts + tuple([(begin, begin, ahead) for begin, ahead in pairs]), corners - 1))
    return (corners, tuple(phases))


def ready_program(cutting):
    """The program that keeps windows of as many elements as there are corners, and joins each answer first of all."""
    need(is_cutting(cutting), "cutting")
    corners = cutting[0]
    phases = []
    for step in range(1, corners + 1):
        rows = [(corners + 1, kept_in(corners, step), 0), (kept_in(corners, step - 1), 0)]
        phases.append((tuple(rows + chain_rows(cutting, step)), corners + 1))
    return (corners + 2, tuple(phases))


def least_phases(width):
    """The least number of phases of a program that is right for ever for (width, 1) with the least mean."""
    need(is_positive(width), "width")
    corners = width + 1
    # Of a cutting that is turned into itself by a third or a half of its corners that part tells all.
    for order in (3, 2):
        if corners % order == 0:
            return corners // order
    return corners


def has_phases(width, phases):
    """Whether some program of so many phases is right for ever for (width, 1) with the least mean."""
    need(is_positive(width), "width")
    need(is_positive(phases), "phases")
    return can_come_round(width + 1, phases)


def can_come_round(corners, by):
    """Whether some cutting of so many corners is turned into itself by this number; nothing is checked."""
    return corners // gcd(corners, by) in (1, 2, 3)
