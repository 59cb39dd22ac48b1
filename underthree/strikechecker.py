"""The checker of strike papers."""

from underthree.errors import InvalidPaper
from underthree.gains import gain_by
from underthree.kinds import is_asks, is_group, is_integer
from underthree.needs import need
from underthree.stands import is_open, left_by, stand_of
from underthree.strikekinds import is_strike


def lets_strikes(asks, thing):
    """The sum of the gains of thing, a strike paper of the asks."""
    need(is_asks(asks), "asks")
    if not isinstance(thing, tuple):
        raise InvalidPaper("shape", -1)
    stand = stand_of(asks)
    total = 0
    for at, entry in enumerate(thing):
        if not is_group(entry, 2) or not is_strike(entry[0]) or not is_integer(entry[1]):
            raise InvalidPaper("shape", at)
        strike, gain = entry
        if not is_open(stand, strike):
            raise InvalidPaper("strike", at)
        if gain != gain_by(stand, strike):
            raise InvalidPaper("gain", at)
        stand = left_by(stand, strike)
        total += gain
    return total
