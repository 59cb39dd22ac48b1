"""Cuttings, and what the document tells of them by other ways than the program's."""

import random
from functools import lru_cache
from itertools import combinations


def is_side(corners, pair):
    return pair[1] - pair[0] == 1 or pair == (0, corners - 1)


def crosses(one, other):
    (a, b), (c, d) = sorted((one, other))
    return a < c < b < d


@lru_cache(maxsize=None)
def all_cuttings(corners):
    """All cuttings of so few corners, from all lots of chords, ascending."""
    chords = [pair for pair in combinations(range(corners), 2) if not is_side(corners, pair)]
    return tuple((corners, some) for some in combinations(chords, max(0, corners - 3))
                 if not any(crosses(one, other) for one, other in combinations(some, 2)))


def random_cutting(corners, seed):
    """A cutting of many corners: ears are cut off anywhere until three corners are left."""
    source = random.Random(seed)
    left, chords = list(range(corners)), []
    while len(left) > 3:
        at = source.randrange(len(left))
        chords.append(tuple(sorted((left[at - 1], left[(at + 1) % len(left)]))))
        left.pop(at)
    return (corners, tuple(sorted(chords)))


LONG = tuple(random_cutting(corners, seed) for corners, seed in ((12, 1), (13, 2), (30, 3), (31, 4), (59, 5), (60, 6), (60, 7)))
EDGES = ((2, ()), (3, ()), (4, ((0, 2),)), (4, ((1, 3),)))
SMALL = tuple(cutting for corners in range(2, 8) for cutting in all_cuttings(corners))


def are_joined(cutting, one, other):
    """Whether two corners are neighbours in the cutting."""
    pair = (min(one, other), max(one, other))
    return one != other and (is_side(cutting[0], pair) or pair in cutting[1])


def due_neighbours(cutting, corner):
    return tuple(other for other in range(cutting[0]) if are_joined(cutting, corner, other))


@lru_cache(maxsize=None)
def due_triangles(cutting):
    return tuple(triple for triple in combinations(range(cutting[0]), 3)
                 if all(are_joined(cutting, one, other) for one, other in combinations(triple, 2)))


def due_prices(cutting):
    return tuple(len([triple for triple in due_triangles(cutting) if corner in triple]) for corner in range(cutting[0]))


def due_turned(cutting, by):
    corners, chords = cutting
    moved = [tuple(sorted(((one + by) % corners, (other + by) % corners))) for one, other in chords]
    return (corners, tuple(sorted(moved)))


def named_anew(cutting, low, high):
    """The cutting of the corners from low to high, named from 0."""
    chords = [(one - low, other - low) for one, other in cutting[1] if low <= one and other <= high and (one, other) != (low, high)]
    return (high - low + 1, tuple(sorted(chords)))


@lru_cache(maxsize=None)
def due_count(corners):
    """How many cuttings there are, by the triangle at the side of 0 and the last corner."""
    if corners == 2:
        return 1
    return sum(due_count(third + 1) * due_count(corners - third) for third in range(1, corners - 1))


def due_number(cutting):
    """The number of a cutting by the words of [9]."""
    corners = cutting[0]
    if corners == 2:
        return 0
    third = [triple[1] for triple in due_triangles(cutting) if triple[0] == 0 and triple[2] == corners - 1][0]
    ahead = sum(due_count(k + 1) * due_count(corners - k) for k in range(1, third))
    low = due_number(named_anew(cutting, 0, third)) * due_count(corners - third)
    return ahead + low + due_number(named_anew(cutting, third, corners - 1))


def split_of(cutting, stretch):
    """The one place strictly within the stretch that stands for the third corner of a triangle."""
    corners = cutting[0]
    low, high = stretch
    places = [place for place in range(low + 1, high)
              if are_joined(cutting, place % corners, low % corners) and are_joined(cutting, place % corners, high % corners)]
    assert len(places) == 1
    return places[0]


def stretches_of(cutting, answers):
    """The stretches of two or more elements that the first answers need."""
    width = cutting[0] - 1
    made = set()
    todo = [(at, at + width) for at in range(answers)]
    while todo:
        stretch = todo.pop()
        if stretch[1] - stretch[0] > 1 and stretch not in made:
            made.add(stretch)
            place = split_of(cutting, stretch)
            todo.extend([(stretch[0], place), (place, stretch[1])])
    return made
