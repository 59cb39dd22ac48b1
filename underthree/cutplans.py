"""Plans by cuts, and the cuts of plans."""

from underthree.askrows import longest_end
from underthree.cutkinds import in_sequence, last_end, need_made
from underthree.grades import right_all
from underthree.needs import need
from underthree.planchanges import used_joins
from underthree.planvalues import spans_of


def plan_by(cuts, asks):
    """The plan whose joins are those of the cuts, and whose answers are the asks."""
    need_made(cuts, asks)
    size = max(last_end(cuts), longest_end(asks), 1)
    names = {(at, at + 1): at for at in range(size)}
    joins = []
    for low, cut, high in cuts:
        joins.append((names[(low, cut)], names[(cut, high)]))
        names[(low, high)] = size + len(joins) - 1
    return (size, tuple(joins), tuple([names[ask] for ask in asks]))


def cuts_of(plan, asks):
    """How a plan that is right for all operations makes the stretches of the joins it uses."""
    need(right_all(plan, asks), "asks")
    size, joins, answers = plan
    spans = spans_of(plan)
    made = {}
    for at in used_joins(plan):
        low, high = spans[size + at]
        if (low, high) not in made:
            made[(low, high)] = (low, spans[joins[at][0]][1], high)
    return in_sequence(list(made.values()))
