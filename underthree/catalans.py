"""How many ways there are."""

from math import comb

from underthree.kinds import is_number
from underthree.needs import need


def catalan(many):
    """The Catalan number of this place."""
    need(is_number(many), "many")
    return comb(2 * many, many) // (many + 1)


def choose(many, few):
    """How many lots of few of many elements there are."""
    need(is_number(many), "many")
    need(is_number(few), "few")
    return comb(many, few) if few <= many else 0
