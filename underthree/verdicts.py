"""Whether programs are right for ever, and what shows that they are not."""

from math import lcm

from underthree.kinds import is_number, is_positive
from underthree.needs import need, refuse
from underthree.programkinds import is_program
from underthree.programruns import entries_of


def round_of(program, hop):
    """The least number of steps behind which phases and asked steps are as before."""
    need(is_program(program), "program")
    need(is_positive(hop), "hop")
    return lcm(hop, len(program[1]))


def told_spans(program, many):
    """What the program tells in its first many steps, each element being its own stretch."""
    need(is_program(program), "program")
    need(is_number(many), "many")
    return tuple(_spans_told(program, many))


def right_forever(program, width, hop):
    """Whether the program tells what is due at all asked steps, for all operations and feeds."""
    return wrong_step(program, width, hop) is None


def wrong_step(program, width, hop):
    """The first asked step at which what is due is not told, None if there is none."""
    _need_asks(program, width, hop)
    rights = _rights_of(program, width)
    behind = width + round_of(program, hop)
    wrong = [step for step in range(width, behind, hop) if not _is_right_at(rights, width, step)]
    return wrong[0] if len(wrong) > 0 else None


def wrong_told(program, width, hop):
    """The pair of what is told at the first wrong step and of what is due there; None without one."""
    step = wrong_step(program, width, hop)
    if step is None:
        return None
    return (_spans_told(program, step)[-1], (step - width, step))


def lets_wrong(program, width, hop, thing):
    """The stretch that is due at the step thing, and is not told there."""
    _need_asks(program, width, hop)
    if not is_number(thing) or thing < width or (thing - width) % hop != 0:
        refuse(("step", -1))
    if _is_right_at(_rights_of(program, width), width, thing):
        refuse(("right", -1))
    return (thing - width, thing)


def need_right(program, width, hop):
    """Raise NotUsable unless the program is right for ever for (width, hop)."""
    need(right_forever(program, width, hop), "program")


def late_round(program, width, hop):
    """The first step of the late round, and the one behind it; nothing is checked."""
    return (2 * width, 2 * width + lcm(hop, len(program[1])))


def _need_asks(program, width, hop):
    need(is_program(program), "program")
    need(is_positive(width), "width")
    need(is_positive(hop), "hop")


def _spans_told(program, many):
    return entries_of(program, ("spans",), [(at, at + 1) for at in range(many)])


def _rights_of(program, width):
    """For each phase, from that of the step width on, whether the last width elements are told."""
    told = _spans_told(program, width + len(program[1]) - 1)
    return [told[step - 1] == ((step - width, step),) for step in range(width, len(told) + 1)]


def _is_right_at(rights, width, step):
    # From the step width on it is told in all steps of a phase, or in none, as the rows between do the same each time.
    return rights[(step - width) % len(rights)]
