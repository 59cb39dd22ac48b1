"""What a house of keys tells."""

from underthree.bounds import quick_bounds
from underthree.leasts import least_of
from underthree.needs import need
from underthree.operations import is_operation


class HouseAsks:
    """A house without open keys, and what houses are asked about their open keys."""

    def __init__(self, operation):
        need(is_operation(operation), "operation")
        self._operation = operation
        # For each open key its keeper, its state, its joins and the row of the asks answered.
        self._entries = {}

    def operation(self):
        """The operation by which all keys join."""
        return self._operation

    def open_keys(self):
        """The open keys, ascending."""
        return tuple(sorted(self._entries))

    def keeper_of(self, key):
        """The key's keeper."""
        return self._entry_of(key)[0]

    def state_of(self, key):
        """The key's state."""
        return self._entry_of(key)[1]

    def held_by(self, key):
        """How many pairs the key holds."""
        return len(self.state_of(key)[3])

    def joins_by(self, key):
        """How many joins were done for the key since it was opened."""
        return self._entry_of(key)[2]

    def asked_by(self, key):
        """The row of the asks answered since the key was opened."""
        return self._entry_of(key)[3]

    def least_by(self, key):
        """The least of this row."""
        return least_of(self.asked_by(key))

    def over_by(self, key):
        """How many joins were done more than the least."""
        return self.joins_by(key) - self.least_by(key)

    def bounds_by(self, key):
        """The quick bounds of this row."""
        return quick_bounds(self.asked_by(key))

    def report(self):
        """For each open key its place, its joins and its least."""
        return tuple([(key, self.state_of(key)[0], self.joins_by(key), self.least_by(key)) for key in self.open_keys()])

    def _entry_of(self, key):
        need(isinstance(key, str) and key in self._entries, "key")
        return self._entries[key]
