"""[71] stores of the last elements."""

import unittest
from functools import reduce

from tests import helpers
from tests.cuttings import EDGES, LONG, SMALL, are_joined, stretches_of
from tests.helpers import FAN5, HEX, check_parameters, check_same, check_unusable
from tests.test_operations import SOME, WRONG_VALUES, sample
from underthree.operations import join_two
from underthree.shapes import fan
from underthree.steadystores import Steady, steady_from

SUM = ("sum", 9)
SEEING = (("maps", 3), ("brackets",), ("grids", 2, 5), ("spans",), ("last",))


def feed_for(operation, many):
    values = sample(operation)
    return tuple(values[(5 * at + 2) % len(values)] for at in range(many))


def due_value(operation, feed, stretch):
    return reduce(lambda one, other: join_two(operation, one, other), feed[stretch[0]:stretch[1]])


def due_stretches(cutting, place):
    """The stretches held, by the words of [71]."""
    corners = cutting[0]
    held = []
    for u in range(max(0, place - corners + 2), place):
        ends = [end for end in range(u + 1, place + 1) if are_joined(cutting, u % corners, end % corners)]
        held.append((u, max(ends)))
    return held


def due_joins(cutting, place):
    """How many stretches of the cutting lie within (0, place)."""
    corners = cutting[0]
    return len([1 for many in range(2, corners) for low in range(place - many + 1) if are_joined(cutting, low % corners, (low + many) % corners)])


class TestSteady(unittest.TestCase):
    def test_example(self):
        store = Steady((3, ()), ("most",))
        check_same(self, (store.put(5), store.put(2), store.held()), ((), ((0, 2), 5), (((1, 2), 2),)))

    def check_state(self, store, cutting, operation, feed, place):
        held = tuple((stretch, due_value(operation, feed, stretch)) for stretch in due_stretches(cutting, place))
        joins = due_joins(cutting, place)
        check_same(self, (store.place(), store.joins(), store.held()), (place, joins, held))
        check_same(self, store.state(), (place, joins, held))

    def check_run(self, cutting, operation, many):
        width = cutting[0] - 1
        feed = feed_for(operation, many)
        store = Steady(cutting=cutting, operation=operation)
        self.check_state(store, cutting, operation, feed, 0)
        for place, value in enumerate(feed, 1):
            ask = (place - width, place)
            check_same(self, store.put(value=value), (ask, due_value(operation, feed, ask)) if place >= width else ())
            self.check_state(store, cutting, operation, feed, place)

    def test_answers_and_states(self):
        for at, cutting in enumerate(SMALL + EDGES):
            for operation in (SOME[at % len(SOME)], SEEING[at % len(SEEING)]):
                self.check_run(cutting, operation, 2 * cutting[0] + 3)
        for operation in SOME:
            self.check_run(FAN5, operation, 12)
            self.check_run(HEX, operation, 13)
        for cutting in LONG[1:3] + LONG[-1:]:
            self.check_run(cutting, ("maps", 3), cutting[0] + 9)

    def test_two_corners(self):
        store = Steady((2, ()), SUM)
        check_same(self, [store.put(5), store.put(7), store.put(8)], [((0, 1), 5), ((1, 2), 7), ((2, 3), 8)])
        check_same(self, store.state(), (3, 0, ()))

    def test_joins_by_answers(self):
        for cutting in SMALL[::3] + EDGES:
            store = Steady(cutting, SUM)
            for place in range(1, 3 * cutting[0]):
                store.put(1)
                if place >= cutting[0] - 1:
                    # A stretch that lies ahead of the first answer may be none of its own.
                    self.assertGreaterEqual(store.joins(), len(stretches_of(cutting, place - cutting[0] + 2)))
        store, joins = Steady(fan(5, 4), SUM), []
        for value in range(9):
            store.put(value)
            joins.append(store.joins())
        check_same(self, joins, [0, 0, 0, 3, 4, 6, 8, 9, 12])

    def test_stopped_at_each_place_and_gone_on(self):
        for at, cutting in enumerate(SMALL[::2] + EDGES + (LONG[0],)):
            operation = SEEING[at % len(SEEING)]
            feed = feed_for(operation, 2 * cutting[0] + 2)
            for stop in range(len(feed) + 1):
                first = Steady(cutting, operation)
                for value in feed[:stop]:
                    first.put(value)
                state = first.state()
                second = steady_from(cutting=cutting, operation=operation, state=state)
                self.assertIs(type(second), Steady)
                check_same(self, second.state(), state)
                for value in feed[stop:]:
                    check_same(self, second.put(value), first.put(value))
                    check_same(self, second.state(), first.state())
                check_same(self, state[0], stop)

    def test_states_of_others(self):
        # The values may be any of the operation, the joins any number, the place as late as may be.
        late = 10 ** 30
        state = (late, 3, tuple((stretch, at) for at, stretch in enumerate(((late - 3, late - 2), (late - 2, late - 1), (late - 1, late)))))
        store = steady_from((5, ((0, 2), (0, 3))), SUM, (0, late, ()))
        check_same(self, store.state(), (0, late, ()))
        # 10 ** 30 stands for corner 0, so the corners 2 and 3 have it as a neighbour and the corner 4 too.
        wanted = ((late - 3, late), (late - 2, late), (late - 1, late))
        store = steady_from((5, ((0, 2), (0, 3))), SUM, (late, 0, tuple((stretch, 7) for stretch in wanted)))
        check_same(self, store.place(), late)
        check_same(self, store.put(1), ((late - 3, late + 1), 8))
        check_unusable(self, "state", -1, steady_from, (5, ((0, 2), (0, 3))), SUM, state)

    def test_apart(self):
        one, other = Steady(FAN5, SUM), Steady(FAN5, SUM)
        one.put(4)
        third = steady_from(FAN5, SUM, one.state())
        third.put(5)
        check_same(self, (one.place(), other.place(), third.place()), (1, 0, 2))
        check_same(self, (one.held(), other.held()), ((((0, 1), 4),), ()))

    def test_values(self):
        for operation in SOME:
            store = Steady((3, ()), operation)
            store.put(sample(operation)[0])
            state = store.state()
            for wrong in WRONG_VALUES[operation[0]]:
                check_unusable(self, "value", -1, store.put, wrong)
                check_unusable(self, "value", -1, store.put, value=wrong)
                check_same(self, store.state(), state)

    def test_parameters(self):
        check_parameters(self, Steady, {"cutting": (3, ()), "operation": SUM}, {"cutting": helpers.NOT_CUTTINGS, "operation": helpers.NOT_OPERATIONS})
        held = (((1, 2), 5), ((2, 3), 6), ((3, 4), 7))
        good = (4, 2, held)
        cutting = (5, ((0, 2), (0, 3)))
        not_states = helpers.NOT_TUPLES + (
            (), (4, 2), (4, 2, held, ()), [4, 2, held], (-4, 2, held), (True, 2, held), ("4", 2, held), (None, 2, held), (4, -2, held), (4, True, held),
            (4, None, held), (4, 2, list(held)), (4, 2, None), (4, 2, ()), (4, 2, held[1:]), (4, 2, held[:2]), (4, 2, held + (((4, 5), 8),)),
            (4, 2, held[::-1]), (4, 2, held[:1] * 3), (4, 2, (((0, 1), 4),) + held), (5, 2, held), (3, 2, held), (0, 2, held), (1, 0, ()), (4, 2, (((1, 3), 5),) + held[1:]),
            (4, 2, (((1, 4), 5),) + held[1:]), (4, 2, (((0, 2), 5),) + held[1:]), (4, 2, ([(1, 2), 5],) + held[1:]), (4, 2, (((1, 2), 5, 6),) + held[1:]),
            (4, 2, (((1, 2),),) + held[1:]), (4, 2, (([1, 2], 5),) + held[1:]), (4, 2, (((True, 2), 5),) + held[1:]), (4, 2, (((1, 2), 9),) + held[1:]),
            (4, 2, (((1, 2), -1),) + held[1:]), (4, 2, (((1, 2), True),) + held[1:]), (4, 2, (((1, 2), None),) + held[1:]), (4, 2, (None,) + held[1:]),
        )
        check_parameters(self, steady_from, {"cutting": cutting, "operation": SUM, "state": good},
                         {"cutting": helpers.NOT_CUTTINGS, "operation": helpers.NOT_OPERATIONS, "state": not_states})
        check_same(self, steady_from((2, ()), SUM, (1, 0, ())).state(), (1, 0, ()))
        check_unusable(self, "state", -1, steady_from, (2, ()), SUM, (1, 0, (((0, 1), 5),)))


if __name__ == "__main__":
    unittest.main()
