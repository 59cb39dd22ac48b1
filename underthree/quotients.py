"""Quotients: made from two integers, added, taken off, multiplied, compared."""

from math import gcd

from underthree.kinds import is_integer, is_quotient
from underthree.needs import need


def quotient_of(top, bottom):
    """The quotient that stands for top / bottom."""
    need(is_integer(top), "top")
    need(is_integer(bottom) and bottom != 0, "bottom")
    return _reduced(top, bottom)


def plus(one, other):
    """The quotient of the sum."""
    _need_both(one, other)
    return _reduced(one[0] * other[1] + other[0] * one[1], one[1] * other[1])


def minus(one, other):
    """The quotient of one, other taken off."""
    _need_both(one, other)
    return _reduced(one[0] * other[1] - other[0] * one[1], one[1] * other[1])


def times(one, other):
    """The quotient of the product."""
    _need_both(one, other)
    return _reduced(one[0] * other[0], one[1] * other[1])


def less(one, other):
    """Whether one is below other."""
    _need_both(one, other)
    return one[0] * other[1] < other[0] * one[1]


def _need_both(one, other):
    need(is_quotient(one), "one")
    need(is_quotient(other), "other")


def _reduced(top, bottom):
    shared = gcd(top, bottom)
    if bottom < 0:
        # The sign stands at the top alone, so that each quotient has one form.
        shared = -shared
    return (top // shared, bottom // shared)
