"""The gains of strikes, and what wide asks begin and end at places."""

from underthree.needs import need
from underthree.stands import need_strike, place_behind
from underthree.strikekinds import is_stand


def gain_of(stand, strike):
    """The gain of the strike."""
    need_strike(stand, strike)
    return gain_by(stand, strike)


def gain_by(stand, strike):
    """The gain of a strike that can be struck; nothing is checked."""
    if strike[0] == "ask":
        return 1
    left, asks = stand
    element = strike[1]
    behind = place_behind(left, element)
    begun = any([ask[0] == element for ask in asks])
    ended = any([ask[1] == behind for ask in asks])
    return 2 if begun and ended else 1


def labels_of(stand):
    """How many wide asks begin and how many end at each place left."""
    need(is_stand(stand), "stand")
    left, asks = stand
    begins = [ask[0] for ask in asks]
    ends = [ask[1] for ask in asks]
    return tuple([(place, begins.count(place), ends.count(place)) for place in left])


def unlabelled(stand):
    """The lot of the places left within wide asks at which none begins or ends."""
    need(is_stand(stand), "stand")
    return tuple(free_places(stand))


def free_places(stand):
    """The list of the places left within wide asks at which none begins or ends; nothing is checked."""
    left, asks = stand
    ends = {place: True for ask in asks for place in ask}
    places = []
    at = 0
    reached = 0
    for place in left:
        # The asks ascend, so those that begin ahead of a place are known when it is its turn.
        while at < len(asks) and asks[at][0] < place:
            reached = max(reached, asks[at][1])
            at += 1
        if place < reached and place not in ends:
            places.append(place)
    return places
