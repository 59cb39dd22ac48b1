"""The least number of joins, and what is left of it without an element or an ask."""

from underthree.askchanges import without_ask
from underthree.needs import need, need_queue
from underthree.stands import is_open, left_by, stand_of
from underthree.strikekinds import is_strike
from underthree.walking import gains_from


def least_of(queue):
    """The least of the row."""
    need_queue(queue)
    return gains_from(stand_of(queue))


def element_least(queue, element):
    """The gains of the walk behind the strike of the element, which comes first."""
    need_queue(queue)
    stand = stand_of(queue)
    strike = ("element", element)
    need(is_strike(strike) and is_open(stand, strike), "element")
    return gains_from(left_by(stand, strike))


def ask_least(queue, at):
    """The least of the row without the ask at this place."""
    need_queue(queue)
    return gains_from(stand_of(without_ask(queue, at)))
