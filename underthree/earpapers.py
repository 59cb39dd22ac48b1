"""Papers of ears, which are cut off one after the other."""

from underthree.cornerprices import cut_off, dropped, is_ear_at, need_prices, prices_of
from underthree.cuttingkinds import cutting_with
from underthree.errors import InvalidPaper
from underthree.kinds import is_number


def ear_paper(cutting):
    """The corners as they are cut off, always the least ear."""
    ears, chords, left = dropped(prices_of(cutting))
    return ears


def lets_ears(prices, thing):
    """The cutting with the prices whose corners are cut off as thing tells."""
    need_prices(prices)
    if not isinstance(thing, tuple):
        raise InvalidPaper("shape", -1)
    names = list(range(len(prices)))
    row = list(prices)
    chords = []
    for at, corner in enumerate(thing):
        if not is_number(corner) or corner not in names:
            raise InvalidPaper("corner", at)
        if len(names) == 3:
            raise InvalidPaper("few", at)
        if not is_ear_at(row, names.index(corner)):
            raise InvalidPaper("ear", at)
        chords.append(cut_off(names, row, names.index(corner)))
    if row != [1, 1, 1]:
        raise InvalidPaper("end", -1)
    return cutting_with(len(prices), chords)
