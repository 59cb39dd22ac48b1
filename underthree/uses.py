"""Which join rows of a program are of use, and which stretches they make."""

from underthree.programruns import join_rows
from underthree.unfolding import joins_under, unfolded
from underthree.verdicts import late_round, need_right


def uses_of(program, width, hop):
    """For each step of the late round the places of its join rows of use."""
    need_right(program, width, hop)
    first, behind = late_round(program, width, hop)
    lots = {step: [] for step in range(first, behind)}
    for step, place, stretch in rows_of_use(program, width, hop, first, behind):
        lots[step].append(place)
    return tuple([tuple(lots[step]) for step in range(first, behind)])


def waste_of(program, width, hop):
    """How many join rows of the late round are without use, and how many make what was made before."""
    need_right(program, width, hop)
    first, behind = late_round(program, width, hop)
    late = join_rows(program, behind - 1) - join_rows(program, first - 1)
    made = {}
    useful = 0
    again = 0
    for step, place, stretch in rows_of_use(program, width, hop, 1, behind):
        if step >= first:
            useful += 1
            again += 1 if stretch in made else 0
        made[stretch] = True
    return (late - useful, again)


def made_late(program, width, hop):
    """The stretches that join rows of use make in the late round."""
    need_right(program, width, hop)
    first, behind = late_round(program, width, hop)
    return tuple(sorted(set([stretch for step, place, stretch in rows_of_use(program, width, hop, first, behind)])))


def rows_of_use(program, width, hop, first, behind):
    """
    The list of (step, place, stretch) of the join rows of use of the steps from first on, ahead of behind.

    The program is right for ever; nothing is checked.
    """
    # What is told at an asked step hangs on rows of this step and of less than width steps ahead of it alone.
    many = behind + width - 2
    joins, told = unfolded(program, many)
    due = [told[step - 1] for step in range(width, many + 1, hop)]
    spans = {at: (at, at + 1) for at in range(many)}
    found = []
    for at in joins_under(joins, many, due):
        step, place, left, right = joins[at]
        stretch = (spans[left][0], spans[right][1])
        spans[many + at] = stretch
        if first <= step < behind:
            found.append((step, place, stretch))
    return found
