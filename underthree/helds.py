"""What programs have to keep from one step to the next."""

from underthree.kinds import is_number, is_positive
from underthree.needs import need
from underthree.verdicts import late_round, need_right


def alive_behind(program, width, hop, step):
    """The lot of the registers whose content behind the step is read later for what is due."""
    need_right(program, width, hop)
    need(is_number(step) and step >= width, "step")
    return _alive_lots(program, width, hop, step, step + 1)[0]


def held_row(program, width, hop):
    """How many registers these are, for each step of the late round."""
    need_right(program, width, hop)
    first, behind = late_round(program, width, hop)
    return tuple([len(lot) for lot in _alive_lots(program, width, hop, first, behind)])


def held_need(width, hop, step):
    """How many asks begin below the step and end above it."""
    need(is_positive(width), "width")
    need(is_positive(hop), "hop")
    need(is_number(step), "step")
    first = max(0, (step - width) // hop + 1)
    behind = (step - 1) // hop + 1
    return behind - first


def _alive_lots(program, width, hop, first, behind):
    """The lots of the registers read later, for the steps from first on, ahead of behind; nothing is checked."""
    phases = program[1]
    alive = {}
    lots = []
    # No answer that is due width steps later hangs on what is there now, so with that step nothing is read yet.
    for step in range(behind + width - 2, first - 1, -1):
        if step < behind:
            lots.append(tuple(sorted(alive)))
        rows, told = phases[(step - 1) % len(phases)]
        if (step - width) % hop == 0:
            alive[told] = True
        for row in reversed(rows):
            if row[0] in alive:
                alive.pop(row[0])
                alive.update({source: True for source in row[1:]})
        # What was there ahead of the step gives way to the element that comes.
        alive.pop(0, None)
    return list(reversed(lots))
