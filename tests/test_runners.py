"""[49] Runners, and what [52] says of them."""

import unittest

from tests import helpers
from tests.cuts import due_held, due_needed
from tests.helpers import FORK, PAIR, check_parameters, check_same, check_unusable
from tests.queues import EDGES, LONG, SMALL
from tests.test_cutplans import MORE, NOT_MADE, PAIR_CUTS
from tests.test_operations import SOME, sample
from underthree.folds import fold_of
from underthree.making import cuts_by
from underthree.runners import Runner, resumed
from underthree.turning import turning_cuts

SUM = ("sum", 100)
NOT_STATES = helpers.NOT_TUPLES + (
    (), (0, 0), (0, 0, (), ()), [0, 0, ()], (-1, 0, ()), (0, -1, ()), (True, 0, ()), (0, False, ()), ("0", 0, ()), (0, None, ()),
    (0, 0, []), (0, 0, None), (0, 0, 0), (0, 0, "ab"), (1, 0, ((0, 1),)), (1, 0, (((0, 1),),)), (1, 0, (((0, 1), 3, 4),)),
    (1, 0, ([(0, 1), 3],)), (1, 0, (((1, 1), 3),)), (1, 0, (((1, 0), 3),)), (1, 0, (((False, 1), 3),)), (1, 0, (((0, 1), 100),)),
    (1, 0, (((0, 1), True),)), (1, 0, (((0, 1), -1),)), (1, 0, (((0, 1), None),)), (1, 0, (((0, 1), 3), None)), (1, 0, (None,)),
)


def runs():
    """Cuts, rows and operations: small rows under many operations, long ones under few."""
    for at, row in enumerate(SMALL[::6] + list(EDGES[:17])):
        for turn in range(2):
            yield cuts_by(row), row, SOME[(at + 5 * turn) % len(SOME)]
    for row in LONG[:3]:
        yield cuts_by(row), row, ("brackets",)
        yield turning_cuts(row), row, ("maps", 3)
    for operation in SOME:
        yield cuts_by(FORK), FORK, operation
    for cuts, row in ((MORE, PAIR), (MORE, ((0, 1), (1, 4), (7, 8))), (((0, 1, 2), (1, 2, 3), (0, 2, 3)), ((0, 3), (1, 2)))):
        yield cuts, row, ("grids", 2, 7)


def feed_for(operation, row):
    values = sample(operation)
    return tuple(values[(3 * at + 1) % len(values)] for at in range(max([high for _, high in row], default=0)))


class TestRunner(unittest.TestCase):
    def test_example(self):
        live = Runner(PAIR_CUTS, PAIR, SUM)
        check_same(self, [live.put(5), live.put(1), live.put(2)], [(), (), (((0, 3), 8),)])
        check_same(self, live.state(), (3, 2, (((1, 3), 3),)))

    def check_state(self, live, cuts, row, operation, feed, place):
        held = tuple((stretch, fold_of(operation, feed, stretch)) for stretch in due_held(cuts, row, place))
        joins = len([triple for triple in due_needed(cuts, row) if triple[2] <= place])
        check_same(self, live.place(), place)
        check_same(self, live.joins(), joins)
        check_same(self, live.held(), held)
        check_same(self, live.state(), (place, joins, held))

    def test_answers_and_states(self):
        for cuts, row, operation in runs():
            feed = feed_for(operation, row)
            live = Runner(cuts=cuts, asks=row, operation=operation)
            self.check_state(live, cuts, row, operation, feed, 0)
            for place, value in enumerate(feed, 1):
                due = tuple((ask, fold_of(operation, feed, ask)) for ask in row if ask[1] == place)
                check_same(self, live.put(value=value), due)
                self.check_state(live, cuts, row, operation, feed, place)
            for value in feed[:1]:
                check_unusable(self, "value", -2, live.put, value)
            self.check_state(live, cuts, row, operation, feed, len(feed))

    def test_stopped_at_each_place_and_gone_on(self):
        for cuts, row, operation in list(runs())[::3]:
            feed = feed_for(operation, row)
            for stop in range(0, len(feed) + 1, 1 if len(feed) < 12 else 17):
                first = Runner(cuts, row, operation)
                for value in feed[:stop]:
                    first.put(value)
                state = first.state()
                second = resumed(cuts=cuts, asks=row, operation=operation, state=state)
                self.assertIs(type(second), Runner)
                check_same(self, second.state(), state)
                for value in feed[stop:]:
                    check_same(self, second.put(value), first.put(value))
                    check_same(self, second.state(), first.state())
                for live in (first, second):
                    if feed:
                        check_unusable(self, "value", -2, live.put, feed[0])

    def test_runners_are_apart(self):
        one, other = Runner(PAIR_CUTS, PAIR, SUM), Runner(PAIR_CUTS, PAIR, SUM)
        one.put(4)
        third = resumed(PAIR_CUTS, PAIR, SUM, one.state())
        third.put(5)
        check_same(self, (one.state(), other.state()), ((1, 0, (((0, 1), 4),)), (0, 0, ())))
        check_same(self, third.state(), (2, 0, (((0, 1), 4), ((1, 2), 5))))

    def test_asks_that_end_together(self):
        cuts = ((1, 2, 3), (0, 1, 3))
        live = Runner(cuts, ((0, 3), (1, 3)), ("last",))
        check_same(self, [live.put(4), live.put(5), live.put(6)], [(), (), (((0, 3), 6), ((1, 3), 6))])
        check_same(self, live.joins(), 2)

    def test_without_asks(self):
        live = Runner((), (), SUM)
        check_same(self, live.state(), (0, 0, ()))
        check_unusable(self, "value", -2, live.put, 5)
        check_unusable(self, "value", -1, live.put, 100)
        live = Runner(((0, 1, 2),), ((1, 2),), SUM)
        check_same(self, [live.put(5), live.state(), live.put(6)], [(), (1, 0, ()), (((1, 2), 6),)])
        check_same(self, live.state(), (2, 0, ()))

    def test_values(self):
        live = Runner(PAIR_CUTS, PAIR, SUM)
        live.put(1)
        for wrong in helpers.NOT_NUMBERS + (100, helpers.SIXTY):
            check_unusable(self, "value", -1, live.put, wrong)
            check_same(self, live.state(), (1, 0, (((0, 1), 1),)))
        for value in (2, 3, 4):
            live.put(value)
        # What is no value is told ahead of what is one too many.
        check_unusable(self, "value", -1, live.put, 100)
        check_unusable(self, "value", -2, live.put, 99)
        check_same(self, live.place(), 4)
        spans = Runner(PAIR_CUTS, PAIR, ("spans",))
        check_same(self, [spans.put((0, 1)), spans.put((1, 2)), spans.put(None)], [(), (), (((0, 3), None),)])

    def test_parameters(self):
        bad = {"cuts": helpers.NOT_CUTS, "asks": helpers.NOT_ASKS + NOT_MADE, "operation": helpers.NOT_OPERATIONS}
        check_parameters(self, Runner, {"cuts": PAIR_CUTS, "asks": PAIR, "operation": SUM}, bad)
        good = {"cuts": PAIR_CUTS, "asks": PAIR, "operation": SUM, "state": (1, 0, (((0, 1), 4),))}
        check_parameters(self, resumed, good, dict(bad, state=NOT_STATES))


if __name__ == "__main__":
    unittest.main()
