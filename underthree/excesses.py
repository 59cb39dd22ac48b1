"""What a plan has more than the least, strike by strike."""

from underthree.families import family_of, lies_in, lots_without, partners_in
from underthree.gains import gain_by
from underthree.grades import right_same
from underthree.kinds import is_lots
from underthree.needs import need, need_queue
from underthree.plankinds import is_plan
from underthree.stands import need_strike, stand_of
from underthree.walking import steps_from
from underthree.wastes import repeats_of, strays_of


def fall_of(family, stand, strike):
    """The fall of the strike by the family."""
    need(is_lots(family), "family")
    need_strike(stand, strike)
    return _fall(family, stand, strike)


def excess_rows(plan, queue):
    """The pairs of each strike of the walk and of its fall less its gain."""
    need(is_plan(plan), "plan")
    need_queue(queue)
    need(right_same(plan, queue), "queue")
    family = family_of(plan, queue)
    rows = []
    for stand, rule, strike in steps_from(stand_of(queue)):
        rows.append((strike, _fall(family, stand, strike) - gain_by(stand, strike)))
        family = _family_left(family, stand, strike)
    return tuple(rows)


def excess_of(plan, queue):
    """How many repeats and how many strays the plan has, and what its falls are above the gains."""
    above = sum([row[1] for row in excess_rows(plan, queue)])
    return (len(repeats_of(plan)), len(strays_of(plan, queue)), above)


def _fall(family, stand, strike):
    if strike[0] == "element":
        return len(partners_in(family, strike[1]))
    others = _other_asks(stand, strike)
    return len([lot for lot in family if lies_in(lot, (strike[1:],)) and not lies_in(lot, others)])


def _family_left(family, stand, strike):
    if strike[0] == "element":
        return lots_without(family, strike[1])
    others = _other_asks(stand, strike)
    return tuple([lot for lot in family if lies_in(lot, others)])


def _other_asks(stand, strike):
    return [ask for ask in stand[1] if ask != strike[1:]]
