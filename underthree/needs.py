"""What functions do with parameters and papers that are not as stated."""

from underthree.errors import InvalidPaper, NotUsable, OutOfOrder
from underthree.kinds import crossed_asks, is_asks, is_queue


def need(fit, word):
    """Raise NotUsable for the parameter called word unless it is fit."""
    if not fit:
        raise NotUsable(word, -1)


def need_queue(queue):
    """Raise the error of a parameter called queue unless it is a queue's row."""
    need(is_asks(queue), "queue")
    need_order(queue)


def need_order(asks):
    """Raise OutOfOrder unless the row of asks is a queue's row."""
    if not is_queue(asks):
        one, other = crossed_asks(asks)
        raise OutOfOrder(one, other)


def refuse(fault):
    """Raise InvalidPaper for the pair of a word and a place, or do nothing for None."""
    if fault is not None:
        word, at = fault
        raise InvalidPaper(word, at)
