"""Turns that leave cuttings as they are."""

from math import gcd

from underthree.cutnumbers import cutting_count
from underthree.cuttingkinds import is_corners, is_cutting
from underthree.kinds import is_number
from underthree.needs import need
from underthree.shapes import turned


def least_turn(cutting):
    """The least number of at least 1 that turns the cutting into itself."""
    need(is_cutting(cutting), "cutting")
    by = 1
    # The turn by all corners leaves each cutting as it is.
    while turned(cutting, by) != cutting:
        by += 1
    return by


def turn_order(cutting):
    """How many turns, each the least one, bring each corner back."""
    need(is_cutting(cutting), "cutting")
    return cutting[0] // least_turn(cutting)


def turned_count(corners, by):
    """How many cuttings of so many corners are turned into themselves."""
    need(is_corners(corners), "corners")
    need(is_number(by), "by")
    part = gcd(corners, by)
    order = corners // part
    if order == 1:
        return cutting_count(corners)
    if order > 3:
        return 0
    # In the middle is a chord or a triangle, at one of so many places; the parts beside it are cut alike.
    return part * cutting_count(part + 1)
