"""[13] what is a value of each kind, [14] quotients."""

import unittest
from fractions import Fraction

from tests import helpers
from tests.helpers import check_parameters, check_same
from underthree.kinds import is_asks, is_integer, is_lot, is_number, is_queue, is_quotient, is_stretch
from underthree.quotients import less, minus, plus, quotient_of, times

NOT_QUOTIENTS = helpers.NOT_TUPLES + (
    (), (1,), (1, 2, 3), (0, 2), (2, 4), (-2, 4), (1, 0), (0, 0), (1, -2), (0, -1), (True, 2), (1, True), (False, 1),
    ("1", 2), (1, None), [1, 2], ((1, 2), 1),
)
QUOTIENTS = ((0, 1), (1, 1), (-1, 1), (1, 2), (-1, 2), (2, 3), (5, 6), (-7, 4), (helpers.HUGE, 1), (1, helpers.HUGE),
             (-helpers.HUGE, helpers.HUGE - 1))


class TestKinds(unittest.TestCase):
    def check(self, function, good, bad):
        for thing in good:
            self.assertIs(function(thing), True, thing)
            self.assertIs(function(thing=thing), True, thing)
        for thing in bad:
            self.assertIs(function(thing), False, thing)

    def test_example(self):
        check_same(self, [is_number(True), is_quotient((0, 2))], [False, False])

    def test_integers(self):
        self.check(is_integer, (0, 1, -1, helpers.HUGE, -helpers.SIXTY), helpers.NOT_INTEGERS + ((0,), "x"))

    def test_numbers(self):
        self.check(is_number, (0, 1, helpers.SIXTY), helpers.NOT_NUMBERS)

    def test_quotients(self):
        self.check(is_quotient, QUOTIENTS, NOT_QUOTIENTS)

    def test_stretches(self):
        self.check(is_stretch, ((0, 1), (3, 4), (0, helpers.SIXTY)), helpers.NOT_STRETCHES)

    def test_lots(self):
        self.check(is_lot, ((), (0,), (5,), (0, 1), (2, 7, helpers.SIXTY)), helpers.NOT_LOTS + ([], [0], [0, 1]))

    def test_asks(self):
        good = ((), ((0, 1),), ((0, 1), (0, 2)), helpers.PAIR, helpers.FORK, ((0, 9), (1, 2)), ((0, helpers.SIXTY),))
        self.check(is_asks, good, helpers.NOT_ASKS + ([], [(0, 1)]))

    def test_queues(self):
        good = ((), ((0, 1),), ((0, 1), (0, 2)), helpers.PAIR, helpers.FORK, ((0, 3), (1, 3), (2, 3)))
        bad = (((0, 9), (1, 2)), ((0, 4), (0, 5), (1, 4)), ((0, 3), (1, 3), (3, 9), (4, 8)))
        self.check(is_queue, good, bad + helpers.NOT_ASKS + ([], [(0, 1)]))

    def test_queues_against_the_definition(self):
        for row in helpers.small_rows(4, 4):
            due = not any(one[0] < other[0] and other[1] < one[1] for one in row for other in row)
            self.assertIs(is_queue(row), due, row)
            self.assertIs(is_asks(row), True)

    def test_long_things(self):
        row = tuple((at, at + 2) for at in range(2400))
        self.check(is_queue, (row,), (row + ((2399, 2400),),))
        self.check(is_asks, (row,), (row + ((0, 1),),))
        self.check(is_lot, (tuple(range(5000)),), (tuple(range(4999)) + (3,),))


class TestQuotients(unittest.TestCase):
    def test_example(self):
        got = [quotient_of(4, -6), plus((1, 2), (1, 3)), less((-1, 2), (0, 1))]
        check_same(self, got, [(-2, 3), (5, 6), True])

    def test_quotient_of(self):
        for top in (-6, -4, -1, 0, 1, 3, 12, helpers.HUGE, -helpers.HUGE):
            for bottom in (-8, -3, -1, 1, 2, 9, helpers.HUGE, -helpers.HUGE):
                value = Fraction(top, bottom)
                check_same(self, quotient_of(top, bottom), (value.numerator, value.denominator))

    def test_two_quotients(self):
        for one in QUOTIENTS:
            for other in QUOTIENTS:
                left, right = Fraction(*one), Fraction(*other)
                for function, value in ((plus, left + right), (minus, left - right), (times, left * right)):
                    check_same(self, function(one, other), (value.numerator, value.denominator))
                self.assertIs(less(one, other), left < right)

    def test_parameters(self):
        check_parameters(self, quotient_of, {"top": 1, "bottom": 2},
                         {"top": helpers.NOT_INTEGERS, "bottom": helpers.NOT_INTEGERS + (0,)})
        for function in (plus, minus, times, less):
            check_parameters(self, function, {"one": (1, 2), "other": (1, 3)},
                             {"one": NOT_QUOTIENTS, "other": NOT_QUOTIENTS})


if __name__ == "__main__":
    unittest.main()
