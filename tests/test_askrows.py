"""[18] rows of asks."""

import unittest
from itertools import permutations

from tests import helpers
from tests.helpers import FORK, PAIR, check_paper, check_parameters, check_same, check_unusable, small_rows
from underthree.askchecker import lets_asks
from underthree.askrows import asks_of, clubs_of, covered, longest_end, order_fault, wide_asks


def due_clubs(asks):
    """Clubs by drawing together whatever shares an element, again and again."""
    clubs = [[ask] for ask in asks if ask[1] - ask[0] >= 2]
    found = True
    while found:
        found = False
        for one in clubs:
            for other in clubs:
                if one is not other and not found and any(
                        set(range(*left)) & set(range(*right)) for left in one for right in other):
                    clubs = [club for club in clubs if club is not one and club is not other] + [one + other]
                    found = True
            if found:
                break
    return tuple(sorted(tuple(sorted(club)) for club in clubs))


class TestChecker(unittest.TestCase):
    def test_rows(self):
        for row in ((), ((0, 1),), PAIR, FORK, ((0, 9), (1, 2)), ((0, helpers.SIXTY),)):
            check_same(self, lets_asks(row), len(row))
            check_same(self, lets_asks(thing=row), len(row))

    def test_shape(self):
        for thing in helpers.NOT_TUPLES:
            check_paper(self, "shape", -1, lets_asks, thing)

    def test_ask(self):
        for wrong in helpers.NOT_STRETCHES:
            check_paper(self, "ask", 0, lets_asks, (wrong,))
            check_paper(self, "ask", 1, lets_asks, ((0, 1), wrong))
            check_paper(self, "ask", 0, lets_asks, (wrong, (0, 1), (0, 1)))

    def test_order(self):
        check_paper(self, "order", 1, lets_asks, ((0, 1), (0, 1)))
        check_paper(self, "order", 1, lets_asks, ((0, 2), (0, 1)))
        check_paper(self, "order", 2, lets_asks, ((0, 2), (1, 3), (0, 4)))

    def test_first_of_two_faults(self):
        check_paper(self, "order", 1, lets_asks, ((0, 2), (0, 1), None))
        check_paper(self, "ask", 1, lets_asks, ((0, 2), None, (0, 2)))
        check_paper(self, "ask", 1, lets_asks, ((3, 4), (0, 0)))
        check_paper(self, "order", 1, lets_asks, ((0, 2), (0, 2), (0, 2)))


class TestRows(unittest.TestCase):
    def test_examples(self):
        row = asks_of((3, 5), (0, 2), (2, 4), (7, 8), (0, 2))
        check_same(self, [covered(row), clubs_of(row)], [(0, 1, 2, 3, 4, 7), (((0, 2),), ((2, 4), (3, 5)))])
        check_same(self, order_fault(((0, 4), (1, 2), (1, 3))), ((0, 4), (1, 2)))

    def test_asks_of(self):
        check_same(self, asks_of(), ())
        check_same(self, asks_of((4, 5)), ((4, 5),))
        check_same(self, asks_of((4, 5), (4, 5)), ((4, 5),))
        for turned in permutations(FORK):
            check_same(self, asks_of(*turned), FORK)
            check_same(self, asks_of(*turned, *turned[:2]), FORK)

    def test_asks_of_the_first_that_is_no_stretch(self):
        for wrong in helpers.NOT_STRETCHES:
            check_unusable(self, "stretches", 0, asks_of, wrong)
            check_unusable(self, "stretches", 0, asks_of, wrong, (0, 1), wrong)
            check_unusable(self, "stretches", 2, asks_of, (3, 4), (0, 1), wrong, None)

    def test_order_fault(self):
        for row in ((), PAIR, FORK, ((0, 2), (0, 5), (1, 5))):
            self.assertIsNone(order_fault(row))
        check_same(self, order_fault(((0, 5), (1, 3), (2, 4), (2, 9), (3, 4))), ((0, 5), (1, 3)))
        check_same(self, order_fault(((0, 3), (0, 4), (1, 3), (2, 3))), ((0, 4), (1, 3)))
        check_same(self, order_fault(((0, 3), (2, 9), (4, 9), (5, 8), (6, 7))), ((2, 9), (5, 8)))

    def test_order_fault_against_the_definition(self):
        for row in small_rows(4, 4):
            pairs = [(one, other) for one in row for other in row if one[0] < other[0] and other[1] < one[1]]
            check_same(self, order_fault(row), min(pairs) if pairs else None)

    def test_wide_asks(self):
        check_same(self, wide_asks(()), ())
        check_same(self, wide_asks(((0, 1), (0, 2), (1, 2), (1, 4), (4, 5))), ((0, 2), (1, 4)))
        check_same(self, wide_asks(((0, 1),)), ())

    def test_covered(self):
        check_same(self, covered(()), ())
        check_same(self, covered(((2, 3),)), (2,))
        check_same(self, covered(((0, 9), (1, 2), (10, 11))), tuple(range(9)) + (10,))
        for row in small_rows(5, 3):
            check_same(self, covered(row), tuple(sorted({at for ask in row for at in range(*ask)})))

    def test_clubs(self):
        check_same(self, clubs_of(()), ())
        check_same(self, clubs_of(((0, 1), (1, 2))), ())
        check_same(self, clubs_of(((0, 2), (2, 4))), (((0, 2),), ((2, 4),)))
        check_same(self, clubs_of(((0, 9), (1, 3), (7, 10), (9, 12), (10, 13))),
                   (((0, 9), (1, 3), (7, 10), (9, 12), (10, 13)),))
        # An ask of one element joins nothing.
        check_same(self, clubs_of(((0, 2), (1, 2), (1, 3), (3, 4), (3, 5))), (((0, 2), (1, 3)), ((3, 5),)))

    def test_clubs_against_the_definition(self):
        for row in small_rows(6, 3):
            check_same(self, clubs_of(row), due_clubs(row))

    def test_clubs_of_long_rows(self):
        row = tuple((at, at + 9) for at in range(0, 110, 2)) + ((118, 120),)
        check_same(self, clubs_of(row), (row[:-1], ((118, 120),)))

    def test_longest_end(self):
        check_same(self, [longest_end(()), longest_end(((0, 9), (1, 2))), longest_end(((4, 5),))], [0, 9, 5])

    def test_parameters(self):
        for function in (order_fault, wide_asks, covered, clubs_of, longest_end):
            check_parameters(self, function, {"asks": PAIR}, {"asks": helpers.NOT_ASKS})


if __name__ == "__main__":
    unittest.main()
