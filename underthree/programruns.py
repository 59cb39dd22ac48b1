"""What programs tell for a feed, and how many join rows they have."""

from underthree.folds import fits_feed
from underthree.kinds import is_number
from underthree.needs import need
from underthree.operations import is_operation, joined
from underthree.programkinds import is_join_row, is_program
from underthree.unfolding import unfolded


def run_program(program, operation, feed):
    """What is told in each step, as a tuple of one value; () if nothing is told."""
    need(is_program(program), "program")
    need(is_operation(operation), "operation")
    need(fits_feed(operation, feed), "feed")
    return tuple(entries_of(program, operation, feed))


def join_rows(program, many):
    """How many join rows the first many steps have."""
    _need_many(program, many)
    counts = counts_by_phase(program)
    rounds, rest = divmod(many, len(counts))
    return rounds * sum(counts) + sum(counts[:rest])


def joins_done(program, many):
    """How many join rows of the first many steps have something on both sides when they are done."""
    _need_many(program, many)
    joins, told = unfolded(program, many)
    return len(joins)


def begun_at(program, phase):
    """The program that begins with the phase at this place."""
    need(is_program(program), "program")
    registers, phases = program
    need(is_number(phase) and phase < len(phases), "phase")
    return (registers, phases[phase:] + phases[:phase])


def entries_of(program, operation, feed):
    """The list of what run_program returns; nothing is checked."""
    phases = program[1]
    contents = {}
    entries = []
    for at, value in enumerate(feed):
        rows, told = phases[at % len(phases)]
        contents[0] = (value,)
        for row in rows:
            contents[row[0]] = _content_by(operation, contents, row)
        # What has nothing is (), and so is what nothing is told of.
        entries.append(contents.get(told, ()))
    return entries


def counts_by_phase(program):
    """The list of how many join rows each phase has; nothing is checked."""
    return [len([row for row in rows if is_join_row(row)]) for rows, told in program[1]]


def _content_by(operation, contents, row):
    sides = [contents.get(source, ()) for source in row[1:]]
    if () in sides:
        return ()
    if not is_join_row(row):
        return sides[0]
    return (joined(operation, sides[0][0], sides[1][0]),)


def _need_many(program, many):
    need(is_program(program), "program")
    need(is_number(many), "many")
