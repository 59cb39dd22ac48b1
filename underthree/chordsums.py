"""What the first answers of a cutting cost, however many they are."""

from underthree.cornerprices import prices_of
from underthree.cuttingkinds import is_cutting
from underthree.kinds import is_number, is_positive
from underthree.needs import need
from underthree.neighbours import neighbour_lots
from underthree.shapes import fan


def first_chords(cutting, many):
    """The numbers of chords at so many corners from 0 on, round and round, added."""
    _need_many(cutting, many)
    return _chords_at_first(cutting, many)


def first_joins(cutting, many):
    """What the first many answers cost."""
    _need_many(cutting, many)
    corners = cutting[0]
    if corners == 2 or many == 0:
        return 0
    return many + corners - 3 + _chords_at_first(cutting, many - 1)


def answer_price(cutting, answer):
    """What this answer costs behind those ahead of it."""
    need(is_cutting(cutting), "cutting")
    need(is_number(answer), "answer")
    corners = cutting[0]
    return corners - 2 if answer == 0 else prices_of(cutting)[(answer - 1) % corners]


def step_joins(cutting, step):
    """How many stretches of the cutting that begin at 0 or later are made in the step."""
    need(is_cutting(cutting), "cutting")
    need(is_positive(step), "step")
    corners = cutting[0]
    lot = neighbour_lots(cutting)[step % corners]
    return len([begin for begin in range(max(0, step - corners + 1), step - 1) if begin % corners in lot])


def least_first(width, many):
    """The least of the first many asks (width, 1)."""
    need(is_positive(width), "width")
    need(is_number(many), "many")
    if width == 1 or many == 0:
        return 0
    rounds, rest = divmod(many - 1, width + 1)
    further = min(max(0, rest - 1), width - 2)
    return many + (width - 2) * (1 + 2 * rounds) + further


def over_least(cutting, many):
    """By how much the first many answers cost more than the least."""
    return first_joins(cutting, many) - least_first(cutting[0] - 1, many)


def is_least_always(cutting):
    """Whether the first answers cost the least, however many they are."""
    need(is_cutting(cutting), "cutting")
    # No other cutting than the one with all its chords at the last corner does so.
    return cutting == fan(cutting[0], cutting[0] - 1)


def _need_many(cutting, many):
    need(is_cutting(cutting), "cutting")
    need(is_number(many), "many")


def _chords_at_first(cutting, many):
    corners, chords = cutting
    rounds, rest = divmod(many, corners)
    # Each chord has two corners.
    return 2 * len(chords) * rounds + len([corner for chord in chords for corner in chord if corner < rest])
