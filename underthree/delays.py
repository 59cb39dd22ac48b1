"""How many joins stand between the coming of an element and the answer."""

from underthree.needs import need
from underthree.programkinds import is_join_row, is_program
from underthree.programruns import counts_by_phase
from underthree.verdicts import late_round, need_right


def delays_of(program, width, hop):
    """For each asked step of the late round how many join rows there are up to the last one that its answer needs."""
    need_right(program, width, hop)
    first, behind = late_round(program, width, hop)
    phases = program[1]
    asked = [step for step in range(first, behind) if (step - width) % hop == 0]
    return tuple([_delay_in(phases[(step - 1) % len(phases)]) for step in asked])


def worst_delay(program, width, hop):
    """The greatest of these numbers."""
    return max(delays_of(program, width, hop))


def rows_row(program):
    """The number of join rows of each phase."""
    need(is_program(program), "program")
    return tuple(counts_by_phase(program))


def worst_rows(program):
    """The greatest number of join rows of a phase."""
    return max(rows_row(program))


def _delay_in(phase):
    rows, source = phase
    # From the last row on: copies tell where the answer stood before, and the first join is the last one it needs.
    for at in reversed(range(len(rows))):
        if rows[at][0] == source:
            if is_join_row(rows[at]):
                return len([row for row in rows[:at + 1] if is_join_row(row)])
            source = rows[at][1]
    return 0
