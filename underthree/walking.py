"""The walk: what it strikes in a stand, and all its strikes to the end."""

from underthree.gains import free_places, gain_by
from underthree.needs import need, need_order, need_queue
from underthree.stands import left_by, stand_of
from underthree.strikekinds import is_stand


def next_strike(stand):
    """The pair of the rule and of what the walk strikes in the stand; None without asks."""
    need(is_stand(stand), "stand")
    need_order(stand[1])
    return strike_by_rules(stand)


def walk_of(queue):
    """The strike paper of the walk."""
    need_queue(queue)
    return tuple([(strike, gain_by(stand, strike)) for stand, rule, strike in steps_from(stand_of(queue))])


def rules_of(queue):
    """The rules by which the walk strikes."""
    need_queue(queue)
    return tuple([rule for stand, rule, strike in steps_from(stand_of(queue))])


def steps_from(stand):
    """The list of (stand, rule, strike) along the walk from a stand of a queue's row on; nothing is checked."""
    steps = []
    found = strike_by_rules(stand)
    while found is not None:
        rule, strike = found
        steps.append((stand, rule, strike))
        stand = left_by(stand, strike)
        found = strike_by_rules(stand)
    return steps


def gains_from(stand):
    """The sum of the gains of the walk from a stand of a queue's row on; nothing is checked."""
    return sum([gain_by(ahead, strike) for ahead, rule, strike in steps_from(stand)])


def strike_by_rules(stand):
    """What next_strike returns for a stand of a queue's row; nothing is checked."""
    left, asks = stand
    if len(asks) == 0:
        return None
    free = free_places(stand)
    if len(free) > 0:
        return (1, ("element", free[0]))
    fork = _last_fork(asks)
    if fork is not None:
        return (2, _strike_of_fork(left, fork))
    return (3, _strike_of_first(left, asks))


def _last_fork(asks):
    """The triple of the greatest place at which two asks begin and of their two greatest ends; or None."""
    forks = [(one[0], one[1], other[1]) for one, other in zip(asks, asks[1:]) if one[0] == other[0]]
    return forks[-1] if len(forks) > 0 else None


def _strike_of_fork(left, fork):
    begin, low, high = fork
    ahead = _place_ahead(left, high)
    return ("ask", begin, high) if ahead == low else ("element", ahead)


def _strike_of_first(left, asks):
    # In a queue's row ends never fall, and here no two asks begin at one place: the first one ends first.
    # All places within an ask that stands alone are free, so that there is a second one.
    end = asks[0][1]
    if asks[1][1] == end:
        return ("ask",) + asks[0]
    return ("element", _place_ahead(left, end))


def _place_ahead(left, place):
    return left[left.index(place) - 1]
