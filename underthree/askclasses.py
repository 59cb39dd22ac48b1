"""A row of asks as an object."""

from underthree.askchanges import merged, mirrored
from underthree.askrows import asks_of, longest_end, wide_asks
from underthree.kinds import is_queue
from underthree.needs import need


class Asks:
    """The row of the stretches that it is made of, told in any sequence."""

    def __init__(self, *stretches):
        self._row = asks_of(*stretches)

    def told(self):
        """The row."""
        return self._row

    def ordered(self):
        """Whether it is a queue's row."""
        return is_queue(self._row)

    def size(self):
        """The greatest end."""
        return longest_end(self._row)

    def wide(self):
        """An Asks of the wide asks alone."""
        row = wide_asks(self._row)
        return Asks(*row)

    def both(self, other):
        """An Asks of its asks and those of the other one."""
        need(isinstance(other, Asks), "other")
        row = merged(self._row, other.told())
        return Asks(*row)

    def mirror(self, size):
        """An Asks of the mirrored row."""
        row = mirrored(self._row, size)
        return Asks(*row)

    def __eq__(self, other):
        return isinstance(other, Asks) and self._row == other._row

    def __len__(self):
        return len(self._row)
