"""Stands, and what strikes leave of them."""

from underthree.askrows import longest_end, wide_asks
from underthree.errors import NotUsable
from underthree.kinds import is_asks
from underthree.needs import need
from underthree.strikekinds import is_stand, is_strike, still_wide


def stand_of(asks):
    """The stand of the row of asks, nothing struck."""
    need(is_asks(asks), "asks")
    return (tuple(range(longest_end(asks) + 1)), wide_asks(asks))


def can_strike(stand, strike):
    """Whether the strike can be struck in the stand."""
    need(is_stand(stand), "stand")
    need(is_strike(strike), "strike")
    return is_open(stand, strike)


def struck(stand, strike):
    """The stand that the strike leaves."""
    need_strike(stand, strike)
    return left_by(stand, strike)


def after_strikes(stand, strikes):
    """The stand that the strikes leave, struck one after the other."""
    need(is_stand(stand), "stand")
    return stands_along(stand, strikes)[-1]


def stands_along(stand, strikes):
    """The list of the stand and of those that the strikes leave; only the strikes are checked."""
    need(isinstance(strikes, tuple), "strikes")
    stands = [stand]
    for at, strike in enumerate(strikes):
        if not is_strike(strike) or not is_open(stands[-1], strike):
            raise NotUsable("strikes", at)
        stands.append(left_by(stands[-1], strike))
    return stands


def need_strike(stand, strike):
    """Raise NotUsable unless stand is one and strike can be struck in it."""
    need(is_stand(stand), "stand")
    need(is_strike(strike) and is_open(stand, strike), "strike")


def is_open(stand, strike):
    """Whether the strike can be struck in the stand; nothing is checked."""
    left, asks = stand
    if strike[0] == "element":
        element = strike[1]
        return element in left and any([low <= element < high for low, high in asks])
    ask = strike[1:]
    return ask in asks and not any([_lies_within(ask, other) for other in asks if other != ask])


def place_behind(left, element):
    """The next place left behind the element, at a place left that is not the last one."""
    return left[left.index(element) + 1]


def left_by(stand, strike):
    """The stand that a strike leaves that can be struck; nothing is checked."""
    left, asks = stand
    if strike[0] == "ask":
        return (left, tuple([ask for ask in asks if ask != strike[1:]]))
    element = strike[1]
    behind = place_behind(left, element)
    rest = tuple([place for place in left if place != element])
    ends = {element: behind}
    moved = [(ends.get(low, low), ends.get(high, high)) for low, high in asks]
    return (rest, tuple(sorted(set(still_wide(rest, moved)))))


def _lies_within(ask, other):
    return other[0] <= ask[0] and ask[1] <= other[1]
