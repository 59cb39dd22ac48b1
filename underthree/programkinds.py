"""What is a program, and its checker."""

from underthree.kinds import is_group, is_number, is_positive
from underthree.needs import refuse


def is_program(thing):
    """Whether thing is a program."""
    return program_fault(thing) is None


def lets_program(thing):
    """How many phases thing, a program, has."""
    refuse(program_fault(thing))
    return len(thing[1])


def program_fault(thing):
    """None for a program, else the word and the place of its first fault."""
    if not is_group(thing, 2):
        return ("shape", -1)
    registers, phases = thing
    if not is_positive(registers):
        return ("registers", -1)
    if not isinstance(phases, tuple) or len(phases) == 0:
        return ("phases", -1)
    for at, phase in enumerate(phases):
        word = _phase_fault(registers, phase)
        if word is not None:
            return (word, at)
    return None


def is_join_row(row):
    """Whether the row, a copy or a join, is a join."""
    return len(row) == 3


def _phase_fault(registers, thing):
    if not is_group(thing, 2) or not isinstance(thing[0], tuple):
        return "phase"
    rows, told = thing
    if not all([_is_row(registers, row) for row in rows]):
        return "row"
    if told is not None and not _is_below(registers, told):
        return "told"
    return None


def _is_row(registers, thing):
    if not is_group(thing, 2) and not is_group(thing, 3):
        return False
    return all([_is_below(registers, place) for place in thing]) and thing[0] != 0


def _is_below(registers, thing):
    return is_number(thing) and thing < registers
