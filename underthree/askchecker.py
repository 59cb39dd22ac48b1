"""The checker of rows of asks."""

from underthree.kinds import asks_fault
from underthree.needs import refuse


def lets_asks(thing):
    """How many asks thing, a row of asks, has."""
    refuse(asks_fault(thing))
    return len(thing)
