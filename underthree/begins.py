"""How many begins of asks stand beside what is held."""

from underthree.askrows import longest_end
from underthree.brackets import needed_for
from underthree.cutkinds import need_made
from underthree.kinds import is_asks, is_number
from underthree.moments import held_of
from underthree.needs import need


def asked_begins(asks, place):
    """The lot of the places below the moment at which an ask begins that ends behind it."""
    need(is_asks(asks), "asks")
    need(is_number(place), "place")
    return tuple(sorted(set([low for low, high in asks if low < place < high])))


def held_table(cuts, asks):
    """For each moment up to the last end how many stretches are held, and how many begins are asked."""
    need_made(cuts, asks)
    needed = needed_for(cuts, asks)
    last = longest_end(asks)
    return tuple([(len(held_of(needed, place)), len(asked_begins(asks, place))) for place in range(last + 1)])
