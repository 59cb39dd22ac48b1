"""[20] histories, and of [21] the steady rows."""

import unittest
from itertools import product

from tests import helpers
from tests.helpers import FORK, PAIR, check_error, check_paper, check_parameters, check_same, check_unusable, small_rows
from underthree.errors import OutOfOrder
from underthree.histories import asks_by, history_by, is_history, lets_history
from underthree.kinds import is_queue
from underthree.steadies import calendar_asks, steady_asks, timed_asks

ASK = ("ask",)
NOT_EVENTS = helpers.NOT_TUPLES + (
    (), ("put",), ("put", 0), ("put", -1), ("put", True), ("put", "1"), ("put", 1, 1), ("put", None), ("put", (1,)),
    ("drop",), ("drop", 0), ("drop", -1), ("drop", True), ("drop", 1, 1), ("ask", 1), ("asks",), ("Put", 1), ("", 1),
    (["put"], 1), (None, 1), (1,), ["ask"], ["put", 1], "ask",
)
NOT_HISTORIES = helpers.NOT_TUPLES + (ASK, ("put", 1), (ASK, None), (("drop", 1),), (("put", 2), ("drop", 3))) + tuple(
    (wrong,) for wrong in NOT_EVENTS)
SMALL = [events for many in range(5) for events in product((("put", 1), ("put", 2), ("drop", 1), ("drop", 2), ASK),
                                                           repeat=many)]


def queue_of(events):
    """What is in behind each event, by a list of elements; None as soon as too few are in."""
    inside, place, seen = [], 0, []
    for event in events:
        if event[0] == "put":
            inside = inside + list(range(place, place + event[1]))
            place += event[1]
        elif event[0] == "drop":
            if len(inside) < event[1]:
                return None
            inside = inside[event[1]:]
        seen.append(inside)
    return seen


class TestHistories(unittest.TestCase):
    def test_example(self):
        check_same(self, history_by(PAIR), (("put", 3), ASK, ("put", 1), ("drop", 1), ASK))

    def test_small_histories(self):
        for events in SMALL:
            seen = queue_of(events)
            self.assertIs(is_history(events), seen is not None, events)
            if seen is None:
                check_unusable(self, "history", -1, asks_by, events)
                continue
            check_same(self, lets_history(events), len(seen[-1]) if seen else 0)
            found = {(inside[0], inside[-1] + 1) for event, inside in zip(events, seen) if event == ASK and inside}
            check_same(self, asks_by(events), tuple(sorted(found)))
            self.assertIs(is_queue(asks_by(events)), True)

    def test_edges(self):
        check_same(self, [lets_history(()), asks_by(()), is_history(()), history_by(())], [0, (), True, ()])
        check_same(self, asks_by((ASK, ("put", 1), ("drop", 1), ASK)), ())
        check_same(self, lets_history((("put", helpers.SIXTY), ("drop", helpers.SIXTY - 1))), 1)
        self.assertIs(is_history(thing=(("put", 1), ("drop", 2))), False)

    def test_paper(self):
        for thing in helpers.NOT_TUPLES:
            check_paper(self, "shape", -1, lets_history, thing)
            self.assertIs(is_history(thing), False)
        for wrong in NOT_EVENTS:
            check_paper(self, "event", 0, lets_history, (wrong,))
            check_paper(self, "event", 1, lets_history, (ASK, wrong, ("drop", 1)))
            self.assertIs(is_history((wrong,)), False)
        check_paper(self, "drop", 0, lets_history, (("drop", 1),))
        check_paper(self, "drop", 2, lets_history, (("put", 3), ASK, ("drop", 4)))

    def test_first_of_two_faults(self):
        check_paper(self, "drop", 1, lets_history, (("put", 1), ("drop", 2), None))
        check_paper(self, "event", 1, lets_history, (("put", 1), None, ("drop", 2)))
        check_paper(self, "drop", 1, lets_history, (("put", 1), ("drop", 2), ("put", 5)))

    def test_history_by(self):
        check_same(self, history_by(((2, 3), (5, 6))), (("put", 3), ("drop", 2), ASK, ("put", 3), ("drop", 3), ASK))
        check_same(self, history_by(((0, 2), (1, 2))), (("put", 2), ASK, ("drop", 1), ASK))
        check_same(self, history_by(((0, 2), (0, 3))), (("put", 2), ASK, ("put", 1), ASK))

    def test_there_and_back(self):
        for row in small_rows(5, 4):
            if not is_queue(row):
                pairs = [(one, other) for one in row for other in row if one[0] < other[0] and other[1] < one[1]]
                one, other = min(pairs)
                check_error(self, OutOfOrder, {"one": one, "other": other}, history_by, row)
                continue
            events = history_by(row)
            check_same(self, asks_by(events), row)
            self.assertIs(is_history(events), True)

    def test_parameters(self):
        check_parameters(self, asks_by, {"history": (ASK,)}, {"history": NOT_HISTORIES})
        check_parameters(self, history_by, {"queue": PAIR}, {"queue": helpers.NOT_ASKS})

    def test_out_of_order(self):
        row = ((0, 5), (1, 3), (2, 4), (2, 9), (3, 4))
        check_error(self, OutOfOrder, {"one": (0, 5), "other": (1, 3)}, history_by, queue=row)
        row = ((0, 1), (2, 8), (3, 8), (4, 7), (5, 6))
        check_error(self, OutOfOrder, {"one": (2, 8), "other": (4, 7)}, history_by, row)


class TestSteadyRows(unittest.TestCase):
    def test_examples(self):
        got = [calendar_asks((1, 5, 2, 4)), timed_asks((0, 2, 2, 9), 3, (4, 2, 3, 7))]
        check_same(self, got, [((0, 1), (0, 2), (1, 3), (1, 4)), ((0, 3), (1, 3))])

    def test_steady_asks(self):
        check_same(self, steady_asks(3, 1, 3), ((0, 3), (1, 4), (2, 5)))
        check_same(self, steady_asks(2, 5, 3), ((0, 2), (5, 7), (10, 12)))
        check_same(self, steady_asks(1, 1, 1), ((0, 1),))
        check_same(self, steady_asks(3, 1, 0), ())

    def test_calendar_asks(self):
        for many in range(5):
            for widths in product((1, 2, 3, 7), repeat=many):
                due = tuple((max([0] + [j + 1 - widths[j] for j in range(k + 1)]), k + 1) for k in range(many))
                check_same(self, calendar_asks(widths), due)
                self.assertIs(is_queue(due), True)

    def test_timed_asks(self):
        for times in ((), (0,), (0, 0, 1), (2, 2, 2), (0, 3, 4, 9)):
            for length in (1, 2, 4, helpers.HUGE):
                moments = (5, 0, 1, 2, 3, 4, 9, 10, 12, 3)
                found = set()
                for moment in moments:
                    lot = [at for at, time in enumerate(times) if moment - length < time <= moment]
                    if lot:
                        self.assertEqual(lot, list(range(lot[0], lot[-1] + 1)))
                        found.add((lot[0], lot[-1] + 1))
                got = timed_asks(times, length, moments)
                check_same(self, got, tuple(sorted(found)))
                self.assertIs(is_queue(got), True)
        check_same(self, timed_asks((0, 1), 1, ()), ())
        check_same(self, timed_asks((), 1, (0, 1)), ())

    def test_parameters(self):
        check_parameters(self, steady_asks, {"width": 1, "hop": 1, "many": 1},
                         {"width": helpers.NOT_POSITIVE, "hop": helpers.NOT_POSITIVE, "many": helpers.NOT_NUMBERS})
        check_parameters(self, calendar_asks, {"widths": (1, 2)}, {"widths": helpers.NOT_TUPLES + (
            (0,), (-1,), (True,), (1, False), (1, "2"), (1, None), ((1,),), [1, 2])})
        not_numbers = helpers.NOT_TUPLES + ((-1,), (True,), (0, False), (0, "2"), (0, None), ((0,),), [0, 1])
        check_parameters(self, timed_asks, {"times": (0, 1), "length": 1, "moments": (0, 1)},
                         {"times": not_numbers + ((1, 0), (0, 2, 1)), "length": helpers.NOT_POSITIVE,
                          "moments": not_numbers})


if __name__ == "__main__":
    unittest.main()
