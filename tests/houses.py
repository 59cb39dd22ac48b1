"""Keys and houses by a plain reckoning of the keys' own values, as [83] to [89] tell them."""

import random
from functools import lru_cache

from tests import cuts
from tests.cuttings import EDGES, SMALL, are_joined, random_cutting
from tests.helpers import FAN5, FORK, HEX, PAIR
from tests.test_operations import sample
from underthree.operations import is_value, join_two

KEYS = ("a", "b", "zz", "longname")
QUEUES = ((), PAIR, FORK, ((0, 1), (1, 2), (1, 4), (2, 4)), ((2, 5), (7, 9)), ((0, 3), (0, 4), (1, 4), (5, 6)), ((0, 2), (0, 3), (0, 5), (2, 5), (4, 5)))
CUTTINGS = SMALL[:8] + SMALL[8::9] + EDGES + (FAN5, HEX)


def hop_keepers():
    for at, (width, hop) in enumerate(((1, 1), (2, 1), (2, 2), (3, 2), (4, 2), (5, 2), (5, 3), (7, 3), (6, 3), (9, 4), (4, 4), (5, 5), (6, 1), (7, 2), (11, 3))):
        yield ("hop", width, hop, random_cutting(width // hop + 1, at))


FIXED = tuple(("steady", cutting) for cutting in CUTTINGS) + tuple(("ready", cutting) for cutting in CUTTINGS) + tuple(hop_keepers())
TOLD = tuple(("told", queue) for queue in QUEUES)
FREE = tuple(("free", width) for width in (0, 1, 2, 3, 5))
KEEPERS = FIXED + TOLD + FREE


@lru_cache(maxsize=None)
def due_cuts(queue):
    return cuts.due_cuts(queue)


@lru_cache(maxsize=None)
def due_held(queue, place):
    return cuts.due_held(due_cuts(queue), queue, place)


def joined_all(operation, values):
    result = values[0]
    for value in values[1:]:
        result = join_two(operation, result, value)
    return result


class PlainKey:
    """A key that keeps all values that ever came, and reckons anew what it is asked."""

    def __init__(self, keeper, operation):
        self.keeper, self.operation = keeper, operation
        self.values, self.front, self.pole, self.top = [], 0, None, None
        self.joins, self.asked = 0, set()

    def copy(self):
        other = PlainKey(self.keeper, self.operation)
        other.__dict__.update(self.__dict__, values=list(self.values), asked=set(self.asked))
        return other

    def place(self):
        return len(self.values)

    def worth(self, stretch):
        return joined_all(self.operation, self.values[stretch[0]:stretch[1]])

    def numbers(self):
        """The width, the hop, and the corners of what keeps the blocks."""
        kind = self.keeper[0]
        if kind == "hop":
            return self.keeper[1:]
        cutting = self.keeper[1]
        return (cutting[0] - 1 if kind == "steady" else cutting[0], 1, cutting)

    def made_from(self, begin):
        """The ends of the stretches made from this begin up to now, for the first three kinds."""
        width, hop, cutting = self.numbers()
        ends = [end for end in range(begin + 1, begin + hop + 1) if end <= self.place()]
        block = begin // hop
        for later in range(block + 2, block + cutting[0]):
            if are_joined(cutting, block % cutting[0], later % cutting[0]) and later * hop <= self.place():
                ends.append(later * hop)
        return ends

    def put(self, value):
        self.values.append(value)
        place, kind = self.place(), self.keeper[0]
        if kind == "free":
            if self.keeper[1]:
                self.go_to(max(self.front, place - self.keeper[1]))
            return ()
        if kind == "told":
            asks = [ask for ask in self.keeper[1] if ask[1] == place]
            self.joins += len([triple for triple in due_cuts(self.keeper[1]) if triple[2] == place])
        else:
            width, hop, cutting = self.numbers()
            asks = [(place - width, place)] if place >= width and (place - width) % hop == 0 else []
            self.joins += sum(place in self.made_from(begin) and place - begin > 1 for begin in range(0, place, hop))
            if asks and width != (cutting[0] - 1) * hop:
                self.joins += 1
        self.asked.update(asks)
        return tuple((ask, self.worth(ask)) for ask in sorted(asks))

    def go_to(self, front):
        self.front = front
        if self.pole is not None and front > self.pole:
            self.pole = self.top = None

    def drop(self):
        self.go_to(self.front + 1)

    def set_width(self, width):
        self.keeper = ("free", width)
        if width:
            self.go_to(max(self.front, self.place() - width))

    def ask(self):
        """The turning keeper of [8] does the ask for all that is in."""
        low, high = self.front, self.place()
        if low == high:
            return None
        if self.pole is None:
            self.joins += len(range(low, high - 1))
            self.pole, self.top = high, high
        else:
            made = range(max(self.top, self.pole + 1) + 1, high + 1)
            self.joins += len(made)
            self.top = high
            if low < self.pole < high:
                self.joins += 1
        self.asked.add((low, high))
        return ((low, high), self.worth((low, high)))

    def stretches(self):
        kind, place = self.keeper[0], self.place()
        if kind == "told":
            return due_held(self.keeper[1], place)
        if kind != "free":
            width, hop, _ = self.numbers()
            return tuple((begin, max(self.made_from(begin))) for begin in range(0, place, hop) if place < begin + width)
        held = []
        for begin in range(self.front, place):
            if self.pole is not None and begin < self.pole:
                held.append((begin, self.pole))
            elif self.pole is not None and begin == self.pole:
                held.append((begin, max(self.top, begin + 1)))
            else:
                held.append((begin, begin + 1))
        return tuple(held)

    def state(self):
        held = tuple((stretch, self.worth(stretch)) for stretch in self.stretches())
        if self.keeper[0] == "free":
            return (self.place(), self.front, self.pole, held)
        return (self.place(), None, None, held)

    def full(self):
        return self.keeper[0] == "told" and self.place() >= max([high for _, high in self.keeper[1]], default=0)


class PlainHouse:
    """A house of plain keys, with the log of what was done."""

    def __init__(self, operation):
        self.operation, self.keys, self.log = operation, {}, []

    def reason(self, event):
        """Why an event, which is one, is barred."""
        word = event[0]
        if word == "crash":
            return None
        if word == "open":
            return "open" if event[1] in self.keys else None
        if event[1] not in self.keys:
            return "key"
        key = self.keys[event[1]]
        if word in ("drop", "ask", "width") and key.keeper[0] != "free":
            return "kind"
        if word == "put" and not is_value(self.operation, event[2]):
            return "value"
        if word == "put" and key.full():
            return "full"
        if word == "drop" and key.front == key.place():
            return "none"
        return None

    def go(self, event):
        self.log.append(event)
        word, *rest = event
        if word == "open":
            self.keys[rest[0]] = PlainKey(rest[1], self.operation)
        elif word == "close":
            del self.keys[rest[0]]
        elif word == "put":
            return self.keys[rest[0]].put(rest[1])
        elif word == "drop":
            self.keys[rest[0]].drop()
        elif word == "width":
            self.keys[rest[0]].set_width(rest[1])
        elif word == "ask":
            return self.keys[rest[0]].ask()
        return None


def random_event(source, house):
    """An event, more often one that is not barred."""
    values = sample(house.operation)
    key = source.choice(KEYS)
    if not house.keys or source.random() < 0.08:
        return ("open", key, source.choice(source.choice((FIXED, TOLD, FREE))))
    if source.random() < 0.9:
        key = source.choice(sorted(house.keys))
    draw = source.random()
    if draw < 0.62:
        return ("put", key, source.choice(values))
    if draw < 0.74:
        return ("ask", key)
    if draw < 0.85:
        return ("drop", key)
    if draw < 0.91:
        return ("width", key, source.choice((0, 1, 2, 3, 5, 40)))
    if draw < 0.94:
        return ("close", key)
    if draw < 0.97:
        return ("crash",)
    return ("put", key, source.choice((None, True, "x", -1, (1, [2]), 10 ** 59)))


def random_log(seed, operation, many=60):
    """A log of so many events, none barred."""
    source, house = random.Random(seed), PlainHouse(operation)
    # All kinds of keepers are open at once.
    for key, keepers in zip(KEYS, (FIXED, FREE, TOLD, FIXED)):
        if len(house.log) < many:
            house.go(("open", key, source.choice(keepers)))
    while len(house.log) < many:
        event = random_event(source, house)
        if house.reason(event) is None:
            house.go(event)
    return tuple(house.log)
