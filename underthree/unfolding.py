"""
What a program joins in its first steps, named as in a plan: the elements first, then the joins.

A join is (step, place of its row in the phase, left, right), left and right being names.
"""

from underthree.programkinds import is_join_row


def unfolded(program, many):
    """The joins done in so many steps with both sides filled, and the name each step tells; nothing is checked."""
    phases = program[1]
    names = {}
    joins = []
    told_names = []
    for at in range(many):
        rows, told = phases[at % len(phases)]
        names[0] = at
        for place, row in enumerate(rows):
            sides = [names.get(source) for source in row[1:]]
            if not is_join_row(row):
                names[row[0]] = sides[0]
            elif None in sides:
                names[row[0]] = None
            else:
                names[row[0]] = many + len(joins)
                joins.append((at + 1, place, sides[0], sides[1]))
        told_names.append(names.get(told))
    return (joins, told_names)


def joins_under(joins, many, names):
    """The places of the joins on which the names hang, ascending; nothing is checked."""
    wanted = {name: True for name in names}
    found = []
    # Sides have lesser names than the join, so from the last one on all that hangs on a join is known.
    for at in reversed(range(len(joins))):
        if many + at in wanted:
            step, place, left, right = joins[at]
            wanted[left] = True
            wanted[right] = True
            found.append(at)
    return list(reversed(found))
