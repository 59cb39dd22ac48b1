"""[23] plans and their checker, [24] their values, [25] what they come to for a feed."""

import unittest

from tests import helpers
from tests.helpers import LAP, PLAN3, check_paper, check_parameters, check_same
from tests.plans import EDGES, small_plans, span_of_word, words_of
from tests.test_operations import SOME, due_join, sample
from underthree.folds import is_feed
from underthree.plankinds import is_plan, lets_plan
from underthree.planruns import run_names, run_plan
from underthree.planvalues import counts_of, lots_of, spans_of

LONG = (120, tuple((at, at + 1) for at in range(400)), tuple(range(460, 520)))


class TestKinds(unittest.TestCase):
    def check_fault(self, word, at, thing):
        check_paper(self, word, at, lets_plan, thing)
        self.assertIs(is_plan(thing), False, thing)

    def test_example(self):
        check_paper(self, "join", 0, lets_plan, (2, ((0, 2),), ()))

    def test_plans(self):
        huge = helpers.SIXTY
        for plan in EDGES + (LONG, (huge, (), ()), (huge, ((0, huge - 1), (huge, huge)), (huge + 1, huge - 2))):
            check_same(self, lets_plan(plan), len(plan[1]))
            check_same(self, lets_plan(thing=plan), len(plan[1]))
            self.assertIs(is_plan(plan), True)
        for plan in helpers.NOT_PLANS:
            self.assertIs(is_plan(thing=plan), False, plan)

    def test_shape(self):
        for thing in helpers.NOT_TUPLES + ((), (2,), (2, ()), (2, (), (), ()), [2, (), ()]):
            self.check_fault("shape", -1, thing)

    def test_size(self):
        for wrong in helpers.NOT_POSITIVE:
            self.check_fault("size", -1, (wrong, (), ()))

    def test_joins(self):
        for wrong in helpers.NOT_TUPLES:
            self.check_fault("joins", -1, (2, wrong, ()))
        for wrong in helpers.NOT_TUPLES + ((), (0,), (0, 1, 0), [0, 1], (-1, 0), (0, -1), (True, 0), (0, False), ("0", 1),
                                           (None, 0), ((0,), 0), (3, 0), (0, 3), (3, 3)):
            self.check_fault("join", 1, (2, ((0, 1), wrong, (0, 1)), ()))
        check_same(self, lets_plan((2, ((0, 1), (2, 2), (3, 2)), ())), 3)
        self.check_fault("join", 2, (2, ((0, 1), (2, 2), (4, 0)), ()))
        self.check_fault("join", 2, (2, ((0, 1), (2, 2), (0, 4)), ()))
        self.check_fault("join", 0, (helpers.SIXTY, ((0, helpers.SIXTY),), ()))

    def test_answers(self):
        for wrong in helpers.NOT_TUPLES:
            self.check_fault("answers", -1, (2, ((0, 1),), wrong))
        for wrong in helpers.NOT_NUMBERS + (3, 4, helpers.HUGE):
            self.check_fault("answer", 0, (2, ((0, 1),), (wrong,)))
            self.check_fault("answer", 1, (2, ((0, 1),), (2, wrong, 9)))
        self.check_fault("answer", 0, (2, (), (2,)))

    def test_first_of_two_faults(self):
        self.check_fault("shape", -1, (0, None))
        self.check_fault("size", -1, (0, None, None))
        self.check_fault("joins", -1, (2, [], None))
        self.check_fault("join", 0, (2, ((0, 5), None), None))
        self.check_fault("join", 0, (2, (None, (0, 5)), (9,)))
        self.check_fault("answers", -1, (2, ((0, 1),), [9]))
        self.check_fault("answer", 0, (2, (), (2, None)))


class TestValues(unittest.TestCase):
    def test_examples(self):
        check_same(self, spans_of(LAP), ((0, 1), (1, 2), (2, 3), (0, 2), (1, 3), None))
        check_same(self, lots_of(LAP), ((0,), (1,), (2,), (0, 1), (1, 2), (0, 1, 2)))
        check_same(self, counts_of(LAP)[5], (1, 2, 1))

    def test_against_words(self):
        for plan in small_plans():
            words = words_of(plan)
            check_same(self, spans_of(plan), tuple(span_of_word(word) for word in words))
            check_same(self, lots_of(plan), tuple(tuple(sorted(set(word))) for word in words))
            counts = tuple(tuple(word.count(element) for element in range(plan[0])) for word in words)
            check_same(self, counts_of(plan), counts)

    def test_many_doublings(self):
        plan = (1, tuple((at, at) for at in range(400)), (400,))
        check_same(self, counts_of(plan)[400], (2 ** 400,))
        check_same(self, lots_of(plan), ((0,),) * 401)
        check_same(self, spans_of(plan), ((0, 1),) + (None,) * 400)

    def test_at_the_limits(self):
        words = words_of((120, LONG[1][:119], ()))
        self.assertEqual(len(spans_of(LONG)), 520)
        check_same(self, spans_of(LONG)[:239], tuple(span_of_word(word) for word in words))
        check_same(self, lots_of(LONG)[238], (118, 119))
        check_same(self, sum(counts_of(LONG)[-1]) % 10 ** 12, run_names(LONG, ("sum", 10 ** 12), (1,) * 120)[-1])

    def test_parameters(self):
        for function in (spans_of, lots_of, counts_of):
            check_parameters(self, function, {"plan": PLAN3}, {"plan": helpers.NOT_PLANS})


class TestRuns(unittest.TestCase):
    def test_example(self):
        check_same(self, run_plan(PLAN3, ("sum", 10), (1, 2, 3, 4)), (6, 9))

    def test_against_words(self):
        for plan in small_plans()[::7] + list(EDGES):
            words = words_of(plan)
            for operation in SOME:
                values = sample(operation)
                feed = tuple(values[(3 * at + 1) % len(values)] for at in range(plan[0]))
                due = []
                for word in words:
                    value = feed[word[0]]
                    for element in word[1:]:
                        value = due_join(operation, value, feed[element])
                    due.append(value)
                check_same(self, run_names(plan, operation, feed), tuple(due))
                check_same(self, run_plan(plan, operation, feed), tuple(due[answer] for answer in plan[2]))

    def test_edges(self):
        check_same(self, run_plan((1, (), ()), ("sum", 3), (2,)), ())
        check_same(self, run_names((1, (), ()), ("sum", 3), (2,)), (2,))
        check_same(self, run_plan((2, (), (1, 1, 0)), ("last",), (-5, 6)), (6, 6, -5))
        check_same(self, run_names((1, ((0, 0),), ()), ("counts", 1), ((4,),)), ((4,), (8,)))

    def test_parameters(self):
        bad_feeds = helpers.NOT_TUPLES + ((), (1,), (1, 2, 3), (1, 2, 3, 4, 5), (1, 2, 3, 10), (1, 2, 3, -1), (1, 2, 3, True),
                                          [1, 2, 3, 4], (1, 2, 3, None), (1, 2, 3, "4"))
        for function in (run_plan, run_names):
            check_parameters(self, function, {"plan": PLAN3, "operation": ("sum", 10), "feed": (1, 2, 3, 4)},
                             {"plan": helpers.NOT_PLANS, "operation": helpers.NOT_OPERATIONS, "feed": bad_feeds})

    def test_values_fit(self):
        for operation in SOME:
            feed = tuple(sample(operation)[:1] * 4)
            self.assertIs(is_feed(operation, run_names(PLAN3, operation, feed)), True)


if __name__ == "__main__":
    unittest.main()
