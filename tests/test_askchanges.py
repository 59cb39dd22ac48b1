"""[19] rows made of other rows, and the class Asks."""

import unittest

from tests import helpers
from tests.helpers import FORK, PAIR, check_error, check_parameters, check_same, check_unusable, small_rows
from underthree.askchanges import kept_within, merged, mirrored, moved, stretched, without_ask
from underthree.askclasses import Asks
from underthree.askrows import asks_of
from underthree.errors import NotUsable

ROWS = small_rows(4, 3)


class TestChanges(unittest.TestCase):
    def test_examples(self):
        got = [mirrored(((0, 1), (1, 4)), 5), stretched(PAIR, (1, 3, 1, 2)), kept_within(FORK, 1, 4)]
        check_same(self, got, [((1, 4), (4, 5)), ((0, 5), (1, 7)), ((1, 3), (1, 4))])

    def test_mirrored(self):
        for row in ROWS:
            for size in (4, 5, 9):
                due = tuple(sorted((size - high, size - low) for low, high in row))
                check_same(self, mirrored(row, size), due)
                check_same(self, mirrored(due, size), row)
        check_same(self, mirrored((), 1), ())
        check_same(self, mirrored(PAIR, 4), PAIR)
        check_same(self, mirrored(((2, 3),), 3), ((0, 1),))

    def test_stretched(self):
        for row in ROWS:
            for counts in ((1, 1, 1, 1), (2, 1, 3, 1), (1, 4, 1, 1, 7)):
                due = tuple((sum(counts[:low]), sum(counts[:high])) for low, high in row)
                check_same(self, stretched(row, counts), due)
        check_same(self, stretched((), ()), ())
        check_same(self, stretched(((0, 1),), (3,)), ((0, 3),))

    def test_merged(self):
        for one in ROWS[::7]:
            for other in ROWS[::5]:
                check_same(self, merged(one, other), tuple(sorted(set(one) | set(other))))
        check_same(self, merged((), ()), ())
        check_same(self, merged(PAIR, PAIR), PAIR)

    def test_moved(self):
        check_same(self, moved(PAIR, 0), PAIR)
        check_same(self, moved(PAIR, 7), ((7, 10), (8, 11)))
        check_same(self, moved((), 7), ())

    def test_kept_within(self):
        for row in ROWS:
            for low in range(4):
                for high in range(low + 1, 6):
                    due = tuple(ask for ask in row if set(range(*ask)) <= set(range(low, high)))
                    check_same(self, kept_within(row, low, high), due)

    def test_without_ask(self):
        check_same(self, [without_ask(FORK, at) for at in range(5)],
                   [FORK[1:], FORK[:1] + FORK[2:], FORK[:2] + FORK[3:], FORK[:3] + FORK[4:], FORK[:4]])
        check_same(self, without_ask(((0, 1),), 0), ())

    def test_parameters(self):
        bad = {"asks": helpers.NOT_ASKS}
        check_parameters(self, mirrored, {"asks": PAIR, "size": 4},
                         {**bad, "size": helpers.NOT_POSITIVE + (1, 2, 3)})
        check_unusable(self, "size", -1, mirrored, (), 0)
        not_counts = helpers.NOT_TUPLES + ((1, 1, 1, 0), (1, 1, 1, -1), (1, 1, 1, True), (1, 1, 1, "1"), ("1",) * 4,
                                           (1, 1, 1, None), [1, 1, 1, 1], (), (1, 1, 1), (0, 1, 1, 1, 1),
                                           (1, 1, 1, 1, 0))
        check_parameters(self, stretched, {"asks": PAIR, "counts": (1, 1, 1, 1)}, {**bad, "counts": not_counts})
        check_parameters(self, merged, {"asks": PAIR, "other": FORK}, {**bad, "other": helpers.NOT_ASKS})
        check_parameters(self, moved, {"asks": PAIR, "many": 1}, {**bad, "many": helpers.NOT_NUMBERS})
        check_parameters(self, kept_within, {"asks": PAIR, "low": 1, "high": 2},
                         {**bad, "low": helpers.NOT_NUMBERS, "high": helpers.NOT_NUMBERS + (0, 1)})
        check_parameters(self, without_ask, {"asks": PAIR, "at": 1},
                         {**bad, "at": helpers.NOT_NUMBERS + (2, 3, helpers.HUGE)})
        check_unusable(self, "at", -1, without_ask, (), 0)
        check_unusable(self, "high", -1, kept_within, (), 3, 3)


class TestAsks(unittest.TestCase):
    def test_methods(self):
        asks = Asks((1, 4), (0, 1), (1, 4))
        self.assertEqual(asks.told(), ((0, 1), (1, 4)))
        self.assertIs(type(asks.told()), tuple)
        self.assertIs(asks.ordered(), True)
        check_same(self, asks.size(), 4)
        check_same(self, len(asks), 2)
        check_same(self, asks.wide().told(), ((1, 4),))
        check_same(self, asks.both(Asks((0, 3))).told(), ((0, 1), (0, 3), (1, 4)))
        check_same(self, asks.both(other=asks).told(), asks.told())
        check_same(self, asks.mirror(size=5).told(), ((1, 4), (4, 5)))
        for made in (asks.wide(), asks.both(asks), asks.mirror(4)):
            self.assertIs(type(made), Asks)
        # Nothing of this has changed the object.
        check_same(self, asks.told(), ((0, 1), (1, 4)))

    def test_without_asks(self):
        asks = Asks()
        check_same(self, [asks.told(), asks.ordered(), asks.size(), len(asks)], [(), True, 0, 0])
        check_same(self, [asks.wide().told(), asks.both(asks).told(), asks.mirror(1).told()], [(), (), ()])

    def test_ordered(self):
        self.assertIs(Asks((0, 4), (1, 2)).ordered(), False)

    def test_equality(self):
        for one in ROWS[::4]:
            for other in ROWS[::4]:
                self.assertIs(Asks(*one) == Asks(*reversed(other)), one == other)
                self.assertIs(Asks(*one) != Asks(*other), one != other)
            for thing in (one, list(one), None, 1, "x"):
                self.assertIs(Asks(*one) == thing, False)
                self.assertIs(thing == Asks(*one), False)
                self.assertIs(Asks(*one) != thing, True)

    def test_errors(self):
        for wrong in helpers.NOT_STRETCHES:
            check_unusable(self, "stretches", 0, Asks, wrong)
            check_unusable(self, "stretches", 1, Asks, (0, 1), wrong, wrong)
        asks = Asks(*PAIR)
        for wrong in (None, True, 1, PAIR, (), [], "x"):
            check_unusable(self, "other", -1, asks.both, wrong)
        for wrong in helpers.NOT_POSITIVE + (3,):
            check_unusable(self, "size", -1, asks.mirror, wrong)
        check_unusable(self, "size", -1, Asks().mirror, 0)
        check_error(self, NotUsable, {"word": "size", "at": -1}, asks.mirror, size=2)

    def test_same_as_asks_of(self):
        for row in ROWS:
            check_same(self, Asks(*reversed(row)).told(), asks_of(*row))


if __name__ == "__main__":
    unittest.main()
