"""[70] rings, and of [11] the guarantee (G13)."""

import unittest
from fractions import Fraction
from itertools import combinations, product
from math import gcd

from tests import helpers
from tests.cuttings import EDGES, LONG, SMALL, all_cuttings, are_joined, due_turned, split_of
from tests.helpers import FAN5, HEX, check_error, check_paper, check_parameters, check_same
from tests.test_operations import SOME, sample
from underthree.errors import NotRound
from underthree.operations import join_two
from underthree.ringlists import lets_ring_cuts, ring_cuts, ring_reaches, ring_run, ring_ways

HUGE = 10 ** 30


def is_round(cutting, size):
    return due_turned(cutting, size % cutting[0]) == cutting


def sizes_for(cutting, most):
    return range(cutting[0], cutting[0] + most)


def due_ring_cuts(cutting, size):
    """The triples by the words of [70] and [9]."""
    corners = cutting[0]
    stretches = [(low, low + many) for many in range(2, corners) for low in range(size) if are_joined(cutting, low % corners, (low + many) % corners)]
    return tuple((low, split_of(cutting, (low, high)), high) for low, high in stretches)


def due_answers(operation, feed, width):
    answers = []
    for begin in range(len(feed)):
        value = feed[begin]
        for step in range(1, width):
            value = join_two(operation, value, feed[(begin + step) % len(feed)])
        answers.append(value)
    return tuple(answers)


def is_one(size, stretch, other):
    """Whether two stretches are one in the ring."""
    return stretch[1] - stretch[0] == other[1] - other[0] and (stretch[0] - other[0]) % size == 0


def fault_of(width, size, thing):
    """The first fault of a tuple of triples of numbers by the words of [70]; None without one."""
    made = []
    for at, (low, cut, high) in enumerate(thing):
        if not (low < cut < high and low < size and high - low <= width):
            return ("cut", at)
        if at and (high - low, low) <= (thing[at - 1][2] - thing[at - 1][0], thing[at - 1][0]):
            return ("order", at)
        for part in ((low, cut), (cut, high)):
            if part[1] - part[0] > 1 and not any(is_one(size, part, other) for other in made):
                return ("part", at)
        made.append((low, high))
    if width > 1:
        for k in range(size):
            if not any(is_one(size, (k, k + width), other) for other in made):
                return ("ask", k)
    return None


class TestRings(unittest.TestCase):
    def test_reaches_and_ways(self):
        for width in range(1, 9):
            for size in range(width + 1, 3 * width + 8):
                ways = sum(is_round(cutting, size) for cutting in all_cuttings(width + 1)) if width < 8 else None
                if ways is not None:
                    check_same(self, ring_ways(width=width, size=size), ways)
                    self.assertIs(ring_reaches(width=width, size=size), ways > 0)
                self.assertIs(ring_reaches(width, size), (width + 1) // gcd(width + 1, size) <= 3)
        for width in range(9, 41):
            for size in (width + 1, width + 2, 2 * width + 2, 3 * width + 1, 96, 105, 120, 118):
                if size > width:
                    self.assertIs(ring_reaches(width, size), (width + 1) // gcd(width + 1, size) in (1, 2, 3))
                    self.assertIs(ring_ways(width, size) > 0, ring_reaches(width, size))
        check_same(self, [ring_ways(1, 2), ring_ways(1, 3), ring_ways(2, 3), ring_ways(5, 6), ring_ways(5, 8), ring_ways(5, 9), ring_ways(4, 6)],
                   [1, 1, 1, 14, 2, 6, 0])

    def test_ring_cuts(self):
        for cutting in SMALL + EDGES + (LONG[0], LONG[1]):
            for size in sizes_for(cutting, 14):
                if is_round(cutting, size):
                    due = due_ring_cuts(cutting, size)
                    check_same(self, ring_cuts(cutting=cutting, size=size), due)
                    check_same(self, lets_ring_cuts(width=cutting[0] - 1, size=size, thing=due), len(due))
                    self.assertEqual(len(due), size * (3 - Fraction(6, cutting[0])))
                else:
                    check_error(self, NotRound, {"turn": size % cutting[0]}, ring_cuts, cutting, size)
        check_same(self, ring_cuts((2, ()), 2), ())
        check_same(self, ring_cuts((3, ()), 4), ((0, 1, 2), (1, 2, 3), (2, 3, 4), (3, 4, 5)))
        check_same(self, ring_cuts((4, ((0, 2),)), 4), ((0, 1, 2), (2, 3, 4), (0, 2, 3), (1, 2, 4), (2, 4, 5), (3, 4, 6)))
        check_error(self, NotRound, {"turn": 1}, ring_cuts, FAN5, 6)
        check_error(self, NotRound, {"turn": 3}, ring_cuts, HEX, 9)
        check_same(self, len(ring_cuts(HEX, 8)), 16)

    def test_sixty_corners(self):
        for cutting in LONG[-2:]:
            check_same(self, ring_cuts(cutting, 60), due_ring_cuts(cutting, 60))
            check_same(self, lets_ring_cuts(59, 60, ring_cuts(cutting, 60)), 174)
            check_same(self, ring_run(cutting, ("last",), tuple(range(60))), tuple((at + 58) % 60 for at in range(60)))
            check_same(self, lets_ring_cuts(59, 120, ring_cuts(cutting, 120)), 348)

    def test_ring_run(self):
        for at, cutting in enumerate(SMALL[:20] + EDGES + (FAN5, HEX)):
            for turn, size in enumerate(sizes_for(cutting, 9)):
                for operation in (SOME[(at + 5 * turn) % len(SOME)], ("maps", 3)):
                    values = sample(operation)
                    feed = tuple(values[(5 * place + 2) % len(values)] for place in range(size))
                    if is_round(cutting, size):
                        check_same(self, ring_run(cutting=cutting, operation=operation, feed=feed), due_answers(operation, feed, cutting[0] - 1))
                    else:
                        check_error(self, NotRound, {"turn": size % cutting[0]}, ring_run, cutting, operation, feed)
        check_same(self, ring_run((2, ()), ("sum", 9), (4, 5)), (4, 5))
        check_same(self, ring_run((2, ()), ("sum", 9), (4, 5, 6)), (4, 5, 6))
        check_same(self, ring_run((3, ()), ("spans",), ((0, 1), (1, 2), (2, 3))), ((0, 2), (1, 3), None))

    def test_parameters(self):
        not_sizes = helpers.NOT_POSITIVE + (1, 2)
        for function in (ring_reaches, ring_ways):
            check_parameters(self, function, {"width": 2, "size": 3}, {"width": helpers.NOT_POSITIVE, "size": not_sizes})
        check_parameters(self, lets_ring_cuts, {"width": 2, "size": 3, "thing": ((0, 1, 2), (1, 2, 3), (2, 3, 4))},
                         {"width": helpers.NOT_POSITIVE, "size": not_sizes, "thing": ()})
        check_parameters(self, ring_cuts, {"cutting": (3, ()), "size": 3}, {"cutting": helpers.NOT_CUTTINGS, "size": not_sizes})
        not_feeds = helpers.NOT_TUPLES + ((), (1,), (1, 2), (1, 2, 10), (1, 2, True), (1, 2, -1), (1, None, 3), [1, 2, 3])
        check_parameters(self, ring_run, {"cutting": (3, ()), "operation": ("sum", 10), "feed": (1, 2, 3)},
                         {"cutting": helpers.NOT_CUTTINGS, "operation": helpers.NOT_OPERATIONS, "feed": not_feeds})
        # What is no parameter as stated is told ahead of what does not come round.
        check_parameters(self, ring_run, {"cutting": HEX, "operation": ("sum", 10), "feed": (1,) * 8},
                         {"cutting": (), "operation": (), "feed": ((1,) * 5, (1,) * 6 + (10,))})


class TestPapers(unittest.TestCase):
    def check(self, width, size, thing):
        fault = fault_of(width, size, thing)
        if fault is None:
            check_same(self, lets_ring_cuts(width, size, thing), len(thing))
        else:
            check_paper(self, *fault, lets_ring_cuts, width, size, thing)
        return fault

    def test_all_small_papers(self):
        triples = sorted([(low, cut, high) for low in range(4) for cut in range(low + 1, low + 3) for high in range(cut + 1, low + 4)],
                         key=lambda triple: (triple[2] - triple[0], triple[0]))
        words = {}
        for width, size in ((1, 2), (2, 3), (3, 4), (2, 4)):
            for many in range(8 if size < 4 else 7):
                for some in combinations(triples, many):
                    fault = self.check(width, size, some)
                    words[fault and fault[0]] = True
        self.assertEqual(set(words), {None, "cut", "order", "part", "ask"})
        for some in product(triples, repeat=3):
            self.check(3, 4, some)
            self.check(2, 3, some)

    def test_each_word(self):
        good = ring_cuts((4, ((0, 2),)), 4)
        for thing in helpers.NOT_TUPLES:
            check_paper(self, "shape", -1, lets_ring_cuts, 3, 4, thing)
        for wrong in (None, (), (0, 1), (0, 1, 2, 3), [0, 1, 2], (0, 1, True), (False, 1, 2), (0, "1", 2), (0, 1, 1), (0, 0, 1), (2, 1, 0), (-1, 0, 1),
                      (4, 5, 6), (0, 1, 4), (1, 2, 5), (10 ** 60, 10 ** 60 + 1, 10 ** 60 + 2), (0, 1, 10 ** 60)):
            for at in range(len(good) + 1):
                check_paper(self, "cut", at, lets_ring_cuts, 3, 4, good[:at] + (wrong,) + good[at:])
        for at in range(1, len(good)):
            check_paper(self, "order", at, lets_ring_cuts, 3, 4, good[:at] + (good[at - 1],) + good[at:])
        check_paper(self, "part", 0, lets_ring_cuts, 3, 4, ((0, 1, 3),))
        check_paper(self, "part", 0, lets_ring_cuts, 3, 4, ((0, 2, 3),))
        check_paper(self, "part", 1, lets_ring_cuts, 3, 4, ((0, 1, 2), (2, 3, 5)))
        # Round a ring of four (4, 6) is (0, 2), in one of five it is not.
        check_paper(self, "ask", 0, lets_ring_cuts, 3, 4, ((0, 1, 2), (3, 4, 6)))
        check_paper(self, "part", 1, lets_ring_cuts, 3, 5, ((0, 1, 2), (3, 4, 6)))
        for at in range(2, len(good)):
            self.check(3, 4, good[:at] + good[at + 1:])
        check_paper(self, "ask", 3, lets_ring_cuts, 3, 4, good[:-1])
        check_paper(self, "ask", 0, lets_ring_cuts, 3, 4, ())
        check_same(self, lets_ring_cuts(1, 2, ()), 0)
        check_paper(self, "cut", 0, lets_ring_cuts, 1, 2, ((0, 1, 2),))

    def test_round_the_ring(self):
        # (3, 6) is made of (3, 4) and (4, 6), which is (0, 2) in a ring of four.
        thing = ((0, 1, 2), (1, 2, 3), (2, 3, 4), (3, 4, 5), (0, 1, 3), (1, 2, 4), (2, 3, 5), (3, 4, 6))
        check_same(self, lets_ring_cuts(3, 4, thing), 8)
        check_paper(self, "part", 6, lets_ring_cuts, 3, 4, thing[1:])
        # A further stretch that no ask needs may be made, too.
        self.check(2, 3, ((0, 1, 2), (1, 2, 3), (2, 3, 4)))

    def test_two_faults_at_once(self):
        for thing, word, at in ((((0, 1, 2), (0, 1, 1), (0, 1, 2)), "cut", 1), (((0, 1, 3), None), "part", 0), (((1, 2, 3), (0, 1, 2), None), "order", 1),
                                (((0, 1, 2), (0, 1, 2), (9, 1, 2)), "order", 1), (((0, 1, 3), (0, 1, 2)), "part", 0), (((0, 1, 2), (0, 2, 3), (0, 1, 3)), "order", 2)):
            check_paper(self, word, at, lets_ring_cuts, 3, 4, thing)

    def test_large_papers(self):
        check_paper(self, "ask", 0, lets_ring_cuts, 40, HUGE, ())
        check_paper(self, "ask", 1, lets_ring_cuts, 2, HUGE, ((0, 1, 2),))
        check_paper(self, "part", 0, lets_ring_cuts, HUGE, HUGE + 1, ((0, 1, HUGE),))
        check_paper(self, "cut", 0, lets_ring_cuts, HUGE, HUGE + 1, ((0, 1, HUGE + 1),))
        size = 1000
        thing = tuple((low, low + 1, low + 2) for low in range(size))
        check_same(self, lets_ring_cuts(2, size, thing), size)
        check_paper(self, "ask", size - 1, lets_ring_cuts, 2, size, thing[:-1])


if __name__ == "__main__":
    unittest.main()
