"""A queue's row and its strikes as an object."""

from underthree.bounds import quick_bounds
from underthree.excesses import excess_of
from underthree.leasts import element_least, least_of
from underthree.needs import need_queue
from underthree.walking import walk_of


class Strikes:
    """What strikes tell of a queue's row."""

    def __init__(self, queue):
        need_queue(queue)
        self._row = queue

    def told(self):
        """The row."""
        return self._row

    def least(self):
        """The least of the row."""
        return least_of(self._row)

    def paper(self):
        """The strike paper of the walk."""
        return walk_of(self._row)

    def bounds(self):
        """The pair of the quick bounds of the least."""
        return quick_bounds(self._row)

    def fall(self, element):
        """The loss by the strike of the element."""
        return least_of(self._row) - element_least(self._row, element)

    def over(self, plan):
        """What the plan has more than the least."""
        return excess_of(plan, self._row)

    def __eq__(self, other):
        return isinstance(other, Strikes) and self._row == other._row
