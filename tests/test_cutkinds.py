"""[43] cuts and their checker, [44] the walk's cuts, [45] the turning keeper, and of [11] the guarantees (G3) and (G7)."""

import unittest
from itertools import product

from tests import helpers
from tests.cuts import TRIPLES, all_cuts, due_cuts, due_fault, due_turning
from tests.helpers import FORK, PAIR, check_paper, check_parameters, check_queue_parameters, check_same
from tests.queues import EDGES, LONG, SMALL
from underthree.bounds import club_many, club_sum, quick_bounds
from underthree.brackets import needed_cuts
from underthree.cutkinds import is_cuts, lets_cuts
from underthree.leasts import least_of
from underthree.making import cuts_by
from underthree.steadies import steady_asks
from underthree.turning import turning_count, turning_cuts

PAIR_CUTS = ((1, 2, 3), (0, 1, 3), (1, 3, 4))
ROWS = (), ((0, 1), (2, 3)), ((0, 3),), PAIR, ((0, 4), (1, 3)), ((0, 2), (0, 3), (3, 4)), ((7, 9),)
NOT_TRIPLES = helpers.NOT_TUPLES + (
    (), (0,), (0, 1), (0, 1, 2, 3), [0, 1, 2], (0, 1, 1), (0, 0, 1), (0, 0, 0), (1, 0, 2), (0, 2, 1), (2, 1, 0), (-1, 0, 1),
    (-2, -1, 0), (False, 1, 2), (0, True, 2), (0, 1, "2"), (0, 1, None), (0, (1,), 2), ((0, 1), 2, 3), (0, 1, [2]), (0, None, 2),
)
HUGE = helpers.SIXTY


class TestKinds(unittest.TestCase):
    def test_is_cuts(self):
        for thing in (PAIR_CUTS, (), ((5, 6, 7),), ((HUGE, HUGE + 1, HUGE + 2),), ((0, 1, 2), (7, 8, 9), (0, 2, 3))):
            self.assertIs(is_cuts(thing=thing), True)
        for thing in helpers.NOT_CUTS + tuple((wrong,) for wrong in NOT_TRIPLES):
            self.assertIs(is_cuts(thing), False, thing)

    def test_all_tuples_of_small_triples(self):
        for many in range(4):
            for thing in product(TRIPLES, repeat=many):
                self.assertIs(is_cuts(thing), due_fault((), thing) is None, thing)

    def test_long_things(self):
        many = 1600
        thing = tuple((at, at + 1, at + 2) for at in range(many))
        self.assertIs(is_cuts(thing), True)
        self.assertIs(is_cuts(thing + ((0, 2, 3),)), True)
        self.assertIs(is_cuts(thing + ((many, many + 2, many + 3),)), False)
        chain = tuple((0, at, at + 1) for at in range(1, many))
        self.assertIs(is_cuts(chain), True)
        self.assertEqual(lets_cuts(((0, many),), chain), many - 1)


class TestChecker(unittest.TestCase):
    def test_examples(self):
        check_same(self, lets_cuts(PAIR, PAIR_CUTS), 3)
        check_paper(self, "ask", 1, lets_cuts, PAIR, ((1, 2, 3), (0, 1, 3)))

    def test_all_tuples_of_small_triples(self):
        for many in range(4):
            for thing in product(TRIPLES, repeat=many):
                for asks in ROWS:
                    fault = due_fault(asks, thing)
                    if fault is None:
                        check_same(self, lets_cuts(asks, thing), many)
                    else:
                        check_paper(self, *fault, lets_cuts, asks, thing)

    def test_shape_and_triples(self):
        for wrong in helpers.NOT_TUPLES:
            check_paper(self, "shape", -1, lets_cuts, PAIR, wrong)
        for wrong in NOT_TRIPLES:
            check_paper(self, "cut", 0, lets_cuts, PAIR, (wrong,))
            check_paper(self, "cut", 1, lets_cuts, PAIR, ((1, 2, 3), wrong, wrong))

    def test_first_of_two_faults(self):
        check_paper(self, "cut", 0, lets_cuts, PAIR, ((1, 1, 3), (0, 1, 2)))
        check_paper(self, "cut", 1, lets_cuts, PAIR, ((1, 2, 3), (0, 0, 1)))
        check_paper(self, "order", 1, lets_cuts, PAIR, ((1, 2, 3), (0, 1, 2), (0, 1, 9)))
        # Its parts are not made either.
        check_paper(self, "order", 2, lets_cuts, PAIR, ((1, 2, 3), (0, 1, 3), (0, 2, 3)))
        check_paper(self, "part", 1, lets_cuts, PAIR, ((0, 1, 2), (2, 4, 5), (0, 1, 2)))
        check_paper(self, "part", 0, lets_cuts, PAIR, ((0, 1, 3), None))
        check_paper(self, "part", 0, lets_cuts, PAIR, ((0, 2, 3),))
        # A part that is made by a later triple only.
        check_paper(self, "part", 0, lets_cuts, PAIR, ((1, 3, 4), (2, 3, 4)))
        check_paper(self, "ask", 0, lets_cuts, PAIR, ())
        check_paper(self, "ask", 0, lets_cuts, PAIR, ((1, 2, 3), (2, 3, 4), (1, 3, 4)))

    def test_beyond_the_limits(self):
        check_paper(self, "part", 0, lets_cuts, PAIR, ((0, 1, HUGE),))
        check_paper(self, "part", 0, lets_cuts, PAIR, ((0, HUGE, HUGE + 1),))
        check_paper(self, "cut", 1, lets_cuts, PAIR, ((HUGE, HUGE + 1, HUGE + 2), (HUGE, HUGE, HUGE)))
        check_same(self, lets_cuts(((HUGE, HUGE + 2),), ((0, 1, 2), (HUGE, HUGE + 1, HUGE + 2))), 2)
        check_paper(self, "ask", 0, lets_cuts, ((0, HUGE),), ((0, 1, 2),))

    def test_parameters(self):
        check_parameters(self, lets_cuts, {"asks": PAIR, "thing": PAIR_CUTS}, {"asks": helpers.NOT_ASKS, "thing": ()})


class TestMaking(unittest.TestCase):
    def test_examples(self):
        check_same(self, cuts_by(FORK), ((0, 1, 2), (1, 2, 3), (4, 5, 6), (1, 3, 4), (4, 6, 7), (3, 4, 7), (1, 4, 6)))
        check_same(self, cuts_by(PAIR), PAIR_CUTS)

    def test_by_definition(self):
        for row in SMALL + list(EDGES) + LONG:
            check_same(self, cuts_by(row), due_cuts(row))

    def test_just_the_least_and_all_needed(self):
        for row in SMALL + list(EDGES) + LONG:
            cuts = cuts_by(row)
            self.assertEqual(lets_cuts(row, cuts), least_of(row))
            self.assertEqual(needed_cuts(cuts, row), cuts)

    def test_edges(self):
        for row in ((), ((0, 1),), ((3, 4), (8, 9))):
            check_same(self, cuts_by(row), ())
        check_same(self, cuts_by(((117, 120),)), ((117, 118, 119), (117, 119, 120)))
        check_same(self, cuts_by(((0, 2), (0, 3), (1, 3))), ((0, 1, 2), (1, 2, 3), (0, 2, 3)))
        check_same(self, cuts_by(((0, 3), (1, 3))), ((1, 2, 3), (0, 1, 3)))

    def test_no_cuts_of_small_rows_are_fewer(self):
        cuts = all_cuts(4, 4)
        for row in ROWS[:5] + (((0, 2), (1, 3), (2, 4)), ((0, 3), (0, 4)), ((0, 4),)):
            if row != ((0, 4), (1, 3)):
                fewest = min(len(some) for some in cuts if due_fault(row, some) is None)
                self.assertEqual(len(cuts_by(row)), fewest)

    def test_parameters(self):
        check_queue_parameters(self, cuts_by, {"queue": PAIR}, {})


class TestTurning(unittest.TestCase):
    def test_examples(self):
        check_same(self, turning_cuts(((0, 1), (1, 4), (2, 4))), ((1, 2, 3), (2, 3, 4), (1, 3, 4)))

    def test_by_definition(self):
        for row in SMALL + list(EDGES) + LONG:
            check_same(self, turning_cuts(row), due_turning(row))
            check_same(self, turning_count(row), len(due_turning(row)))
            self.assertEqual(lets_cuts(row, turning_cuts(row)), turning_count(row))

    def test_the_pole(self):
        # An ask that begins at the pole does not move it, one that begins behind it does.
        check_same(self, turning_cuts(((0, 2), (2, 5), (3, 6))), ((0, 1, 2), (2, 3, 4), (4, 5, 6), (2, 4, 5), (3, 4, 6)))
        check_same(self, turning_cuts(((0, 2), (2, 4))), ((0, 1, 2), (2, 3, 4)))
        check_same(self, turning_cuts(((0, 2), (3, 5))), ((0, 1, 2), (3, 4, 5)))
        check_same(self, turning_cuts(((0, 2), (3, 6))), ((0, 1, 2), (4, 5, 6), (3, 4, 6)))
        # Asks of one element: the first sets the pole at 1; the last one is at the pole, and needs no join.
        check_same(self, turning_cuts(((0, 1), (0, 3))), ((1, 2, 3), (0, 1, 3)))
        check_same(self, turning_cuts(((0, 3),)), ((1, 2, 3), (0, 1, 3)))
        check_same(self, turning_cuts(((0, 1), (1, 2), (1, 4))), ((1, 2, 3), (1, 3, 4)))
        check_same(self, turning_cuts(((0, 1), (2, 3), (2, 5), (3, 5))), ((3, 4, 5), (2, 3, 5)))
        check_same(self, turning_cuts(((4, 5),)), ())
        check_same(self, turning_cuts(()), ())
        # What lies between the pole and the end of an ask is made, though only a later one wants a part of it.
        check_same(self, turning_cuts(((0, 3), (2, 3), (2, 6))), ((1, 2, 3), (3, 4, 5), (0, 1, 3), (3, 5, 6), (2, 3, 6)))

    def test_bounds(self):
        for row in SMALL + list(EDGES) + LONG:
            least, many = least_of(row), turning_count(row)
            self.assertLessEqual(least, many)
            self.assertLessEqual(many, quick_bounds(row)[1])
            self.assertLessEqual(many, least + club_sum(row) - club_many(row))
            self.assertLessEqual(many, 2 * least - club_many(row))

    def test_steady_rows(self):
        for width in range(1, 9):
            for many in range(0, 30):
                row = steady_asks(width, 1, many)
                self.assertEqual(turning_count(row), least_of(row))

    def test_parameters(self):
        for function in (turning_cuts, turning_count):
            check_queue_parameters(self, function, {"queue": PAIR}, {})


if __name__ == "__main__":
    unittest.main()
