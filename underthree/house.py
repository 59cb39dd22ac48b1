"""A house of keys, with its log."""

from underthree.errors import InvalidEvent, NothingToUndo
from underthree.houseasks import HouseAsks
from underthree.keyturns import begun_entry, entry_behind
from underthree.kinds import is_positive
from underthree.needs import need
from underthree.reasons import reason_for


class House(HouseAsks):
    """Keys that are opened and closed, to which elements come, and which answer."""

    def __init__(self, operation):
        super().__init__(operation)
        self._log = []
        # What was there ahead of each event of the log.
        self._past = []

    def open_key(self, key, keeper):
        """Open the key with this keeper."""
        return self.go(("open", key, keeper))

    def put(self, key, value):
        """An element comes: the answers of the asks that end now."""
        return self.go(("put", key, value))

    def drop(self, key):
        """The first element goes."""
        return self.go(("drop", key))

    def ask(self, key):
        """What all that is in comes to, None if nothing is in."""
        return self.go(("ask", key))

    def set_width(self, key, width):
        """Keep at most so many elements from now on, any number of them for 0."""
        return self.go(("width", key, width))

    def close(self, key):
        """Forget the key."""
        return self.go(("close", key))

    def crash(self):
        """Nothing but a line of the log."""
        return self.go(("crash",))

    def go(self, event):
        """Do the event: what is answered to it."""
        reason = self.barred(event)
        if reason is not None:
            raise InvalidEvent(event, reason)
        entries = dict(self._entries)
        answer = None
        if event[0] == "open":
            entries[event[1]] = begun_entry(event[2])
        elif event[0] == "close":
            entries.pop(event[1])
        elif event[0] != "crash":
            entries[event[1]], answer = entry_behind(self._operation, entries[event[1]], event)
        self._past.append(self._entries)
        self._entries = entries
        self._log.append(event)
        return answer

    def barred(self, event):
        """The first reason for which the event is barred now, None without one."""
        rows = [(key, self.keeper_of(key), self.state_of(key)) for key in self.open_keys()]
        return reason_for(self._operation, rows, event)

    def do_all(self, events, keep=False):
        """Do the events: what is answered to each. If one is barred, all are undone unless keep is True."""
        need(isinstance(events, tuple), "events")
        begin = len(self._log)
        answers = []
        for event in events:
            reason = self.barred(event)
            if reason is not None:
                if keep is not True:
                    self._back_to(begin)
                raise InvalidEvent(event, reason)
            answers.append(self.go(event))
        return tuple(answers)

    def undo(self, steps=1):
        """Make all as it was ahead of so many events, the last ones of the log."""
        need(is_positive(steps), "steps")
        if steps > len(self._log):
            raise NothingToUndo(steps)
        self._back_to(len(self._log) - steps)

    def tried(self, events):
        """What do_all returns, or raises; all stays as it was."""
        begin = len(self._log)
        answers = self.do_all(events)
        self._back_to(begin)
        return answers

    def log(self):
        """The events that were done."""
        return tuple(self._log)

    def __eq__(self, other):
        return isinstance(other, House) and self._operation == other._operation and self._log == other._log

    def _back_to(self, many):
        """Make all as it was when the log had so many events."""
        if many < len(self._log):
            self._entries = self._past[many]
            self._past = self._past[:many]
            self._log = self._log[:many]
