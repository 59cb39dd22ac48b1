"""What is a strike, what is a stand."""

from underthree.kinds import is_group, is_lot, is_number, is_rising, is_stretch


def is_strike(thing):
    """Whether thing is a strike of an element or of an ask."""
    if not isinstance(thing, tuple) or len(thing) == 0:
        return False
    if thing[0] == "element":
        return len(thing) == 2 and is_number(thing[1])
    return thing[0] == "ask" and is_stretch(thing[1:])


def is_stand(thing):
    """Whether thing is a pair of the places left and the wide asks."""
    if not is_group(thing, 2):
        return False
    left, asks = thing
    if not is_lot(left) or not isinstance(asks, tuple) or not all([is_stretch(ask) for ask in asks]):
        return False
    return is_rising(asks) and len(still_wide(left, asks)) == len(asks)


def still_wide(left, asks):
    """The list of the asks between places left that have a place left strictly between."""
    ranks = {place: rank for rank, place in enumerate(left)}
    known = [ask for ask in asks if ask[0] in ranks and ask[1] in ranks]
    return [ask for ask in known if ranks[ask[1]] - ranks[ask[0]] >= 2]
