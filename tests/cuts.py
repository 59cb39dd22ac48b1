"""Cuts, and what the document tells of them by other ways than the program's."""

from itertools import combinations

from tests.queues import due_stand, due_walk

TRIPLES = tuple(combinations(range(5), 3))


def made(cuts):
    return {(low, high): cut for low, cut, high in cuts}


def due_fault(asks, thing):
    """The first fault of a tuple of triples of numbers, by the words of [43]; None without one."""
    for at, (low, cut, high) in enumerate(thing):
        if not low < cut < high:
            return ("cut", at)
        if at > 0 and (high - low, low) <= (thing[at - 1][2] - thing[at - 1][0], thing[at - 1][0]):
            return ("order", at)
        if any(end - begin > 1 and (begin, end) not in made(thing[:at]) for begin, end in ((low, cut), (cut, high))):
            return ("part", at)
    for at, (low, high) in enumerate(asks):
        if high - low > 1 and (low, high) not in made(thing):
            return ("ask", at)
    return None


def all_cuts(size, most):
    """All cuts of at most so many triples, with all places up to the size."""
    triples = sorted(combinations(range(size + 1), 3), key=lambda triple: (triple[2] - triple[0], triple[0]))
    return [some for many in range(most + 1) for some in combinations(triples, many) if due_fault((), some) is None]


def due_cuts(row):
    """The cuts of the walk, by the words of [8]."""
    triples = []
    for (left, asks), rule, strike, _ in due_walk(due_stand(row)):
        if strike[0] == "element":
            place = strike[1]
            low, high = max(one for one in left if one < place), min(one for one in left if one > place)
            triples.append((low, place, high))
            triples.extend((place, high, end) for begin, end in asks if begin == place)
        elif rule == 2:
            _, begin, high = strike
            triples.append((begin, max(end for low, end in asks if low == begin and end != high), high))
        else:
            _, begin, end = strike
            triples.append((begin, min(low for low, high in asks if high == end and low > begin), end))
    return in_sequence(triples)


def in_sequence(triples):
    return tuple(sorted(triples, key=lambda triple: (triple[2] - triple[0], triple[0])))


def due_turning(row):
    """The cuts of the turning keeper, by the words of [8]."""
    cuts = {}
    pole = None
    for low, high in row:
        if pole is None or low > pole:
            for begin in range(high - 2, low - 1, -1):
                cuts.setdefault((begin, high), begin + 1)
            pole = high
            continue
        for end in range(pole + 2, high + 1):
            cuts.setdefault((pole, end), end - 1)
        if low < pole < high:
            cuts.setdefault((low, high), pole)
    return in_sequence((low, cut, high) for (low, high), cut in cuts.items())


def parts_of(cuts, stretch):
    """The stretch and all that it is made of."""
    low, high = stretch
    if high - low == 1:
        return {stretch}
    cut = made(cuts)[stretch]
    return {stretch} | parts_of(cuts, (low, cut)) | parts_of(cuts, (cut, high))


def due_needed(cuts, asks):
    needed = set().union(*[parts_of(cuts, ask) for ask in asks])
    return tuple(triple for triple in cuts if (triple[0], triple[2]) in needed)


def due_held(cuts, asks, moment):
    """The stretches held at a moment, by the words of [8]."""
    held = set()
    for low, cut, high in due_needed(cuts, asks):
        for part in ((low, cut), (cut, high)):
            if part[1] <= moment < high:
                held.add(part)
    return tuple(sorted(held))
