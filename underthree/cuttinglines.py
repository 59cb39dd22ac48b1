"""Cuttings as lines, there and back."""

from underthree.cuttingkinds import chord_fault, is_cutting
from underthree.errors import InvalidText
from underthree.figures import end_at, number_in, part_at, unmarked
from underthree.needs import need

NONE = "-"


def cutting_line(cutting):
    """The corners and the chords of the cutting."""
    need(is_cutting(cutting), "cutting")
    corners, chords = cutting
    rest = ", ".join([f"{one} {other}" for one, other in chords]) if len(chords) > 0 else NONE
    return f"{corners}; {rest}"


def read_cutting(text):
    """The cutting whose line is the text."""
    need(isinstance(text, str), "text")
    parts = text.split(" ")
    figures, mark = unmarked(parts[0], ";")
    corners = number_in(figures)
    if corners is None or corners < 2 or mark == "":
        raise InvalidText(0, 0)
    if corners > 3:
        return (corners, _chords_in(parts, corners))
    if part_at(parts, 1) != NONE:
        raise InvalidText(0, 1)
    end_at(parts, 2)
    return (corners, ())


def _chords_in(parts, corners):
    chords = []
    at = 1
    while len(chords) < corners - 3:
        one = number_in(part_at(parts, at))
        if one is None:
            raise InvalidText(0, at)
        figures, mark = unmarked(part_at(parts, at + 1), ",")
        other = number_in(figures)
        due = "," if len(chords) < corners - 4 else ""
        # What is wrong with a chord is told at its second part, where the whole chord is known.
        if other is None or mark != due or chord_fault(corners, chords, (one, other)) is not None:
            raise InvalidText(0, at + 1)
        chords.append((one, other))
        at += 2
    end_at(parts, at)
    return tuple(chords)
