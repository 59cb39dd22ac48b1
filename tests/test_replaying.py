"""[90] logs done again, cut, crashed, and what [92] and (G14) say of them."""

import unittest

from tests import helpers
from tests.helpers import PAIR, check_error, check_parameters, check_same
from tests.houses import KEYS, PlainHouse, random_log
from tests.test_house import NO_EVENTS, SEEING, SUM, check_house, snapshot
from tests.test_keys import NOT_KEYS
from underthree.errors import InvalidEvent
from underthree.house import House
from underthree.replaying import answers_by, crashed_log, cut_log, joins_along, replayed

CRASH = ("crash",)
OPENED = (("open", "a", ("free", 2)), ("put", "a", 4), ("ask", "a"))
NOT_LOGS = helpers.NOT_TUPLES + tuple((event,) for event in NO_EVENTS) + (OPENED + (None,), list(OPENED), (list(OPENED[0]),), OPENED[1], (("crash",), ()))
# Logs of which an event is barred, with the first such one and its reason.
BARRED = (
    ((("put", "a", 1),), ("put", "a", 1), "key"), (OPENED + (OPENED[0],), OPENED[0], "open"), (OPENED + (("drop", "a"), ("drop", "a"), ("ask", "b")), ("drop", "a"), "none"),
    (OPENED + (("put", "a", 9),) + OPENED, ("put", "a", 9), "value"), (OPENED + (("close", "a"), ("ask", "a")), ("ask", "a"), "key"),
    ((("open", "t", ("told", ())), CRASH, ("put", "t", 0)), ("put", "t", 0), "full"), ((("open", "t", ("told", PAIR)), ("width", "t", 0)), ("width", "t", 0), "kind"),
    (OPENED + (("put", "a", None), ("put", "a", [])), ("put", "a", None), "value"),
)


class TestReplaying(unittest.TestCase):
    def test_replayed(self):
        for seed in range(16):
            operation = SEEING[seed % len(SEEING)]
            log = random_log(seed + 200, operation)
            plain = PlainHouse(operation)
            answers = tuple(plain.go(event) for event in log)
            house = replayed(operation=operation, log=log)
            self.assertIs(type(house), House)
            check_house(self, house, plain)
            check_same(self, answers_by(operation=operation, log=log), answers)
            # A house equals replayed(operation, live.log()).
            live = House(operation)
            for at, event in enumerate(log):
                live.go(event)
                if at % 7 == 0:
                    self.assertIs(live == replayed(operation, live.log()), True)
                    check_same(self, snapshot(replayed(operation, live.log())), snapshot(live))
            self.assertIs(live == house, True)

    def test_joins_along(self):
        for seed in range(16):
            operation = SEEING[seed % len(SEEING)]
            log = random_log(seed + 300, operation)
            for key in KEYS + ("never",):
                plain, due = PlainHouse(operation), []
                for event in log:
                    plain.go(event)
                    due.append(plain.keys[key].joins if key in plain.keys else None)
                check_same(self, joins_along(operation=operation, log=log, key=key), tuple(due))
        log = (CRASH, ("open", "a", ("free", 0)), ("put", "a", 1), ("put", "a", 2), ("ask", "a"), ("close", "a"), ("open", "a", ("told", PAIR)))
        check_same(self, joins_along(SUM, log, "a"), (None, 0, 0, 0, 1, None, 0))
        check_same(self, joins_along(SUM, log, "b"), (None,) * 7)

    def test_nothing(self):
        self.assertIs(replayed(SUM, ()) == House(SUM), True)
        check_same(self, (answers_by(SUM, ()), joins_along(SUM, (), "a"), cut_log((), 0), crashed_log((), 0)), ((), (), ((), ()), (CRASH,)))

    def test_cut_at_each_place(self):
        for seed in range(4):
            log = random_log(seed + 400, SUM)
            whole = answers_by(SUM, log)
            for many in range(len(log) + 1):
                first, rest = cut_log(log=log, many=many)
                check_same(self, (cut_log(log, many), first, rest), ((log[:many], log[many:]), log[:many], log[many:]))
                house = replayed(SUM, first)
                check_same(self, answers_by(SUM, first) + house.do_all(rest), whole)
                self.assertIs(house == replayed(SUM, log), True)

    def test_crashed_at_each_place(self):
        for seed in range(6):
            operation = SEEING[seed]
            log = random_log(seed + 500, operation, 40)
            whole, end = answers_by(operation, log), snapshot(replayed(operation, log))
            counts = joins_along(operation, log, "a")
            for at in range(len(log) + 1):
                crashed = crashed_log(log=log, at=at)
                check_same(self, crashed, log[:at] + (CRASH,) + log[at:])
                check_same(self, answers_by(operation, crashed), whole[:at] + (None,) + whole[at:])
                check_same(self, snapshot(replayed(operation, crashed)), end[:3] + (crashed,))
                # No count changes by a crash, either.
                check_same(self, joins_along(operation, crashed, "a"), counts[:at] + ((None,) + counts)[at:at + 1] + counts[at:])
                self.assertIs(replayed(operation, crashed) == replayed(operation, log), False)

    def test_barred(self):
        for log, event, reason in BARRED:
            fields = {"event": event, "reason": reason}
            check_error(self, InvalidEvent, fields, replayed, SUM, log)
            check_error(self, InvalidEvent, fields, answers_by, SUM, log)
            check_error(self, InvalidEvent, fields, joins_along, SUM, log, "a")
            check_error(self, InvalidEvent, fields, joins_along, SUM, log, "never")
            check_error(self, InvalidEvent, fields, answers_by, SUM, crashed_log(log, 0))
            # These two only look at what are events.
            check_same(self, cut_log(log, 1), (log[:1], log[1:]))
            check_same(self, crashed_log(log, len(log)), log + (CRASH,))

    def test_parameters(self):
        not_many = helpers.NOT_NUMBERS + (4, 5, 10 ** 30)
        for function in (replayed, answers_by):
            check_parameters(self, function, {"operation": SUM, "log": OPENED}, {"operation": helpers.NOT_OPERATIONS, "log": NOT_LOGS})
        check_parameters(self, cut_log, {"log": OPENED, "many": 3}, {"log": NOT_LOGS, "many": not_many})
        check_parameters(self, crashed_log, {"log": OPENED, "at": 3}, {"log": NOT_LOGS, "at": not_many})
        bad = {"operation": helpers.NOT_OPERATIONS, "log": NOT_LOGS, "key": NOT_KEYS}
        check_parameters(self, joins_along, {"operation": SUM, "log": OPENED, "key": "zz"}, bad)
        # What is no key is told ahead of what is barred.
        check_parameters(self, lambda key: joins_along(SUM, OPENED, key), {"key": "a"}, {"key": NOT_KEYS})
        with self.assertRaises(helpers.NotUsable):
            joins_along(SUM, BARRED[0][0], "A")


if __name__ == "__main__":
    unittest.main()
