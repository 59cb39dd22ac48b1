"""[16] feeds, and what many values come to."""

import unittest

from tests import helpers
from tests.helpers import check_parameters, check_same, check_unusable
from tests.test_operations import SOME, WRONG_VALUES, due_join, sample
from underthree.feeds import bit_feed, count_feed, span_feed
from underthree.folds import fold, fold_of, is_feed, joined_times

SPANS3 = ((0, 1), (1, 2), (2, 3))


class TestFolds(unittest.TestCase):
    def test_examples(self):
        check_same(self, fold_of(("spans",), SPANS3, (1, 3)), (1, 3))
        check_same(self, joined_times(("grids", 2, 100), ((1, 1), (0, 1)), 10 ** 30 - 1), ((1, 99), (0, 1)))

    def test_is_feed(self):
        for operation in SOME:
            values = sample(operation)
            for thing in ((), tuple(values[:1]), tuple(values)):
                self.assertIs(is_feed(operation, thing), True, (operation, thing))
            self.assertIs(is_feed(operation, list(values)), False)
            for wrong in WRONG_VALUES[operation[0]]:
                self.assertIs(is_feed(operation, (wrong,)), False, (operation, wrong))
                self.assertIs(is_feed(operation, (values[0], wrong)), False, (operation, wrong))
                self.assertIs(is_feed(operation, (wrong, values[0])), False, (operation, wrong))
        for thing in helpers.NOT_TUPLES:
            self.assertIs(is_feed(("sum", 3), thing), False, thing)

    def test_fold(self):
        for operation in helpers.OPERATIONS:
            values = sample(operation)
            due = values[0]
            check_same(self, fold(operation, (due,)), due)
            for many, value in enumerate(values[1:], 2):
                due = due_join(operation, due, value)
                check_same(self, fold(operation, tuple(values[:many])), due)

    def test_fold_of(self):
        for operation in SOME:
            values = tuple(sample(operation)[:5])
            for low in range(len(values)):
                for high in range(low + 1, len(values) + 1):
                    due = values[low]
                    for value in values[low + 1:high]:
                        due = due_join(operation, due, value)
                    check_same(self, fold_of(operation, values, (low, high)), due)

    def test_joined_times(self):
        for operation in helpers.OPERATIONS:
            for value in sample(operation):
                due = value
                for many in range(1, 20):
                    check_same(self, joined_times(operation, value, many), due)
                    due = due_join(operation, due, value)

    def test_joined_very_many_times(self):
        huge = 10 ** 30
        check_same(self, joined_times(("sum", 10 ** 12), 10 ** 12 - 1, huge - 1), 1)
        check_same(self, joined_times(("product", 1000), 3, huge), pow(3, huge, 1000))
        check_same(self, joined_times(("counts", 2), (1, 5), huge), (huge, 5 * huge))
        check_same(self, joined_times(("brackets",), (2, 3), huge), (2, huge + 2))
        check_same(self, joined_times(("brackets",), (0, 3), huge), (0, 3 * huge))
        check_same(self, joined_times(("maps", 3), (1, 2, 0), huge), (1, 2, 0))
        check_same(self, joined_times(("maps", 3), (1, 2, 0), huge + 1), (2, 0, 1))
        check_same(self, joined_times(("spans",), (0, 1), huge), None)
        check_same(self, joined_times(("spans",), None, huge), None)
        check_same(self, joined_times(("spans",), (0, 1), 1), (0, 1))
        check_same(self, joined_times(("last",), -huge, huge), -huge)
        check_same(self, joined_times(("sum", 1), 0, huge), 0)

    def test_parameters(self):
        bad_operations = helpers.NOT_OPERATIONS
        for operation in bad_operations:
            check_unusable(self, "operation", -1, is_feed, operation, ())
            check_unusable(self, "operation", -1, is_feed, thing=None, operation=operation)
        bad_feeds = helpers.NOT_TUPLES + ((3,), (-1,), (True,), (0, False), ((),), (None,), (0, "1"), ((0, 1),))
        check_parameters(self, fold, {"operation": ("sum", 3), "feed": (1, 2)},
                         {"operation": bad_operations, "feed": bad_feeds + ((),)})
        bad_stretches = helpers.NOT_STRETCHES + ((0, 4), (2, 4), (3, 4), (0, helpers.HUGE))
        check_parameters(self, fold_of, {"operation": ("sum", 3), "feed": (1, 2, 0), "stretch": (0, 3)},
                         {"operation": bad_operations, "feed": bad_feeds, "stretch": bad_stretches})
        check_parameters(self, joined_times, {"operation": ("sum", 3), "value": 1, "many": 2},
                         {"operation": bad_operations, "value": WRONG_VALUES["sum"], "many": helpers.NOT_POSITIVE})

    def test_no_values(self):
        check_unusable(self, "feed", -1, fold, ("sum", 3), ())
        check_unusable(self, "stretch", -1, fold_of, ("sum", 3), (), (0, 1))
        check_unusable(self, "stretch", -1, fold_of, ("spans",), SPANS3, (0, 4))


class TestFeeds(unittest.TestCase):
    def test_example(self):
        check_same(self, count_feed(2), (("counts", 2), ((1, 0), (0, 1))))

    def test_span_feed(self):
        check_same(self, span_feed(1), (("spans",), ((0, 1),)))
        check_same(self, span_feed(3), (("spans",), SPANS3))

    def test_count_feed(self):
        check_same(self, count_feed(1), (("counts", 1), ((1,),)))
        check_same(self, count_feed(3), (("counts", 3), ((1, 0, 0), (0, 1, 0), (0, 0, 1))))

    def test_bit_feed(self):
        check_same(self, bit_feed(1), (("or",), (1,)))
        check_same(self, bit_feed(4), (("or",), (1, 2, 4, 8)))

    def test_all_sizes(self):
        for size in (1, 2, 7, 120):
            for made, whole in ((span_feed(size), (0, size)), (count_feed(size), (1,) * size),
                                (bit_feed(size), 2 ** size - 1)):
                operation, feed = made
                self.assertEqual(len(feed), size)
                self.assertIs(is_feed(operation, feed), True)
                check_same(self, fold(operation, feed), whole)

    def test_parameters(self):
        for function in (span_feed, count_feed, bit_feed):
            check_parameters(self, function, {"size": 2}, {"size": helpers.NOT_POSITIVE})


if __name__ == "__main__":
    unittest.main()
