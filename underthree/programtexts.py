"""Programs as lines, there and back."""

from underthree.errors import InvalidText
from underthree.figures import end_at, number_in, part_at, unmarked
from underthree.needs import need
from underthree.programkinds import is_program

NONE = "-"


def program_line(program):
    """The number of registers, then the rows of each phase and what it tells."""
    need(is_program(program), "program")
    registers, phases = program
    return "; ".join([str(registers)] + [_phase_line(rows, told) for rows, told in phases])


def read_program(text):
    """The program whose line is the text."""
    need(isinstance(text, str), "text")
    parts = text.split(" ")
    figures, mark = unmarked(parts[0], ";")
    registers = number_in(figures)
    if registers is None or registers == 0 or mark == "":
        raise InvalidText(0, 0)
    phases = []
    at = 1
    while mark == ";":
        rows, at = _rows_at(parts, at, registers)
        figures, mark = unmarked(part_at(parts, at), ";")
        told = None if figures == NONE else _source_in(figures, at, registers)
        phases.append((rows, told))
        at += 1
    end_at(parts, at)
    return (registers, tuple(phases))


def _phase_line(rows, told):
    first = ", ".join([" ".join([str(place) for place in row]) for row in rows]) if len(rows) > 0 else NONE
    last = NONE if told is None else str(told)
    return f"{first}: {last}"


def _rows_at(parts, at, registers):
    """The rows that the parts from this place on tell, and the place behind them."""
    if part_at(parts, at) == NONE + ":":
        return ((), at + 1)
    rows = []
    mark = ","
    while mark == ",":
        row, mark = _row_at(parts, at, registers)
        rows.append(row)
        at += len(row)
    return (tuple(rows), at)


def _row_at(parts, at, registers):
    """The row that the parts from this place on tell, and the mark behind it."""
    target = _source_in(part_at(parts, at), at, registers)
    if target == 0:
        raise InvalidText(0, at)
    figures, mark = unmarked(part_at(parts, at + 1), ",:")
    left = _source_in(figures, at + 1, registers)
    if mark != "":
        return ((target, left), mark)
    figures, mark = unmarked(part_at(parts, at + 2), ",:")
    right = _source_in(figures, at + 2, registers)
    if mark == "":
        raise InvalidText(0, at + 2)
    return ((target, left, right), mark)


def _source_in(figures, at, registers):
    number = number_in(figures)
    if number is None or number >= registers:
        raise InvalidText(0, at)
    return number
