"""[87] reasons, [88] what houses tell, [89] houses, what [92] says of them, and of [11] the guarantee (G14)."""

import random
import unittest

from tests import helpers
from tests.helpers import FAN5, HEX, PAIR, check_error, check_parameters, check_same, check_unusable
from tests.houses import KEYS, QUEUES, PlainHouse, due_cuts, random_event, random_log
from tests.queues import due_least, due_stand
from tests.test_keys import NOT_FREE_STATES, NOT_KEEPERS, NOT_KEYS, NOT_STEADY_STATES
from tests.test_operations import SOME
from underthree.bounds import quick_bounds
from underthree.chordsums import first_joins
from underthree.errors import InvalidEvent, NothingToUndo
from underthree.house import House
from underthree.houseasks import HouseAsks
from underthree.reasons import reason_of
from underthree.shapes import fan
from underthree.turning import turning_count

SUM = ("sum", 9)
SEEING = (("maps", 3), ("brackets",), ("grids", 2, 5), ("spans",), ("last",), SUM)
NO_EVENTS = helpers.NOT_TUPLES + (
    (), ("crash", 1), ("put", "a"), ("put", "A", 1), ("open", "a", ("free", -1)), ("open", "a", ("told", ((0, 4), (1, 2)))), ("width", "a", True), ("ask", "a", 1),
    ("drop", ""), ["crash"], ("keys",), ("put", ["a"], 1), ("open", "a", ("hop", 1, 2, (2, ()))),
)


def due_told(house, plain, key):
    """Everything that [88] tells of an open key."""
    own = plain.keys[key]
    asked = tuple(sorted(own.asked))
    least = due_least(due_stand(asked))
    return (own.keeper, own.state(), len(own.stretches()), own.joins, asked, least, own.joins - least, quick_bounds(asked))


def told(house, key):
    return (house.keeper_of(key), house.state_of(key), house.held_by(key), house.joins_by(key), house.asked_by(key), house.least_by(key),
            house.over_by(key), house.bounds_by(key))


def snapshot(house):
    return (house.open_keys(), tuple(told(house, key) for key in house.open_keys()), house.report(), house.log())


def check_house(case, house, plain, thorough=True):
    check_same(case, house.open_keys(), tuple(sorted(plain.keys)))
    check_same(case, house.log(), tuple(plain.log))
    for key, own in plain.keys.items():
        check_same(case, (house.keeper_of(key), house.state_of(key), house.joins_by(key)), (own.keeper, own.state(), own.joins))
    if thorough:
        due = {key: due_told(house, plain, key) for key in plain.keys}
        for key in plain.keys:
            check_same(case, told(house, key), due[key])
        report = tuple((key, due[key][1][0], due[key][3], due[key][5]) for key in sorted(plain.keys))
        check_same(case, house.report(), report)


class TestReasons(unittest.TestCase):
    def rows_of(self, house):
        return tuple((key, house.keeper_of(key), house.state_of(key)) for key in house.open_keys())

    def test_random_events(self):
        seen = set()
        for seed in range(60):
            source, operation = random.Random(seed), SOME[seed % len(SOME)]
            house, plain = House(operation), PlainHouse(operation)
            for _ in range(60):
                event = random_event(source, plain)
                due = plain.reason(event)
                seen.add(due)
                check_same(self, house.barred(event=event), due)
                check_same(self, reason_of(operation=operation, rows=self.rows_of(house), event=event), due)
                if due is None:
                    check_same(self, house.go(event=event), plain.go(event))
                else:
                    check_error(self, InvalidEvent, {"event": event, "reason": due}, house.go, event)
        self.assertEqual(seen, {None, "open", "key", "kind", "value", "full", "none"})

    def test_each_reason(self):
        house = House(SUM)
        house.do_all((("open", "a", ("free", 0)), ("open", "s", ("steady", FAN5)), ("open", "r", ("ready", FAN5)), ("open", "h", ("hop", 5, 2, (3, ()))),
                      ("open", "t", ("told", PAIR)), ("open", "n", ("told", ()))))
        for event, reason in (
            (None, "shape"), (("put", "A", 99), "shape"), (("open", "a", ("free", -1)), "shape"), (("open", "a", ("free", 1)), "open"), (("open", "s", ("free", 1)), "open"),
            (("put", "b", 1), "key"), (("put", "b", 99), "key"), (("ask", "b"), "key"), (("drop", "b"), "key"), (("width", "b", 1), "key"), (("close", "b"), "key"),
            (("drop", "s"), "kind"), (("ask", "r"), "kind"), (("width", "h", 0), "kind"), (("drop", "t"), "kind"), (("ask", "n"), "kind"), (("width", "n", 3), "kind"),
            (("put", "a", 9), "value"), (("put", "s", True), "value"), (("put", "n", -1), "value"), (("put", "n", 1), "full"), (("drop", "a"), "none"),
            (("ask", "a"), None), (("width", "a", 0), None), (("close", "n"), None), (("open", "b", ("free", 1)), None), (("crash",), None), (("put", "t", 8), None),
        ):
            check_same(self, house.barred(event), reason)
            check_same(self, reason_of(SUM, self.rows_of(house), event), reason)
        for event in NO_EVENTS:
            check_same(self, (house.barred(event), reason_of(SUM, (), event)), ("shape", "shape"))
        check_same(self, [reason_of(SUM, (), event) for event in (("crash",), ("ask", "a"), ("open", "a", ("free", 0)))], [None, "key", None])

    def test_full(self):
        rows = (("t", ("told", PAIR), (4, None, None, ())),)
        check_same(self, [reason_of(SUM, rows, ("put", "t", value)) for value in (1, 9, None)], ["full", "value", "value"])

    def test_parameters(self):
        free, steady = ("a", ("free", 2), (0, 0, None, ())), ("b", ("steady", FAN5), (0, None, None, ()))
        bad = helpers.NOT_TUPLES + (free, (free, free), (steady, free), (free, steady, free), [free], (list(free),), (free[:2],), (free + (1,),), (free, None), ((),))
        bad += tuple((("a", ("free", 2), state),) for state in NOT_FREE_STATES) + tuple((("a", ("steady", FAN5), state),) for state in NOT_STEADY_STATES)
        bad += tuple(((key, ("free", 2), (0, 0, None, ())),) for key in NOT_KEYS) + tuple((("a", keeper, (0, 0, None, ())),) for keeper in NOT_KEEPERS)
        for rows in bad:
            for event in (("crash",), None, ("put", "a", 99)):
                check_unusable(self, "rows", -1, reason_of, SUM, rows, event)
                check_unusable(self, "rows", -1, reason_of, operation=SUM, rows=rows, event=event)
        for operation in helpers.NOT_OPERATIONS:
            for rows in ((free, steady), None):
                check_unusable(self, "operation", -1, reason_of, operation, rows, ("crash",))
        check_same(self, reason_of(SUM, (free, steady), ("put", "b", 3)), None)


class TestHouseAsks(unittest.TestCase):
    def test_without_keys(self):
        for kind in (HouseAsks, House):
            house = kind(operation=SUM)
            check_same(self, (house.open_keys(), house.report()), ((), ()))
            for key in ("a",) + NOT_KEYS:
                for function in (house.keeper_of, house.state_of, house.held_by, house.joins_by, house.asked_by, house.least_by, house.over_by, house.bounds_by):
                    check_unusable(self, "key", -1, function, key)
                    check_unusable(self, "key", -1, function, key=key)
            check_parameters(self, kind, {"operation": SUM}, {"operation": helpers.NOT_OPERATIONS})
        self.assertTrue(issubclass(House, HouseAsks))

    def test_random_logs(self):
        for seed in range(24):
            operation = SEEING[seed % len(SEEING)]
            house, plain = House(operation), PlainHouse(operation)
            for at, event in enumerate(random_log(seed, operation)):
                check_same(self, house.go(event), plain.go(event))
                check_house(self, house, plain, at % 10 == 9)
            for key in set(KEYS) - set(plain.keys):
                check_unusable(self, "key", -1, house.joins_by, key)

    def test_closed_and_opened_anew(self):
        house = House(SUM)
        house.do_all((("open", "b", ("free", 3)), ("open", "a", ("steady", (3, ()))), ("put", "b", 4), ("put", "b", 5), ("ask", "b"), ("put", "a", 1), ("put", "a", 2)))
        check_same(self, house.report(), (("a", 2, 1, 1), ("b", 2, 1, 1)))
        check_same(self, (house.asked_by("b"), house.bounds_by("b"), house.over_by("b")), (((0, 2),), (1, 1), 0))
        check_same(self, (house.close(key="b"), house.open_keys(), house.report()), (None, ("a",), (("a", 2, 1, 1),)))
        check_unusable(self, "key", -1, house.joins_by, "b")
        check_same(self, house.open_key(key="b", keeper=("told", PAIR)), None)
        check_same(self, (house.joins_by("b"), house.asked_by("b"), house.state_of("b")), (0, (), (0, None, None, ())))
        check_same(self, house.state_of("a"), (2, None, None, (((1, 2), 2),)))


class TestHouse(unittest.TestCase):
    def test_example(self):
        live = House(SUM)
        check_same(self, live.do_all((("open", "a", ("free", 2)), ("put", "a", 4), ("ask", "a"))), (None, (), ((0, 1), 4)))

    def test_methods_are_events(self):
        house = House(operation=SUM)
        check_same(self, house.open_key(key="a", keeper=("free", 2)), None)
        check_same(self, house.ask(key="a"), None)
        check_same(self, [house.put(key="a", value=value) for value in (1, 2, 3)], [(), (), ()])
        check_same(self, (house.ask("a"), house.drop(key="a"), house.set_width(key="a", width=0)), (((1, 3), 5), None, None))
        check_same(self, (house.keeper_of("a"), house.crash(), house.close(key="a")), (("free", 0), None, None))
        check_same(self, house.log(), (("open", "a", ("free", 2)), ("ask", "a"), ("put", "a", 1), ("put", "a", 2), ("put", "a", 3), ("ask", "a"), ("drop", "a"),
                                       ("width", "a", 0), ("crash",), ("close", "a")))
        house.open_key("s", ("steady", (3, ())))
        check_same(self, [house.put("s", value) for value in (4, 7)], [(), (((0, 2), 2),)])

    def test_refused_events_change_nothing(self):
        house = House(SUM)
        house.do_all((("open", "a", ("free", 2)), ("put", "a", 4), ("open", "t", ("told", ()))))
        ahead = snapshot(house)
        for call, event, reason in (
            ((house.open_key, "a", ("free", 1)), ("open", "a", ("free", 1)), "open"), ((house.open_key, "A", ("free", 1)), ("open", "A", ("free", 1)), "shape"),
            ((house.open_key, "b", None), ("open", "b", None), "shape"), ((house.put, "a", 9), ("put", "a", 9), "value"), ((house.put, "a", True), ("put", "a", True), "value"),
            ((house.put, "t", 1), ("put", "t", 1), "full"), ((house.put, None, 1), ("put", None, 1), "shape"), ((house.drop, "b"), ("drop", "b"), "key"),
            ((house.drop, "t"), ("drop", "t"), "kind"), ((house.drop, ["a"]), ("drop", ["a"]), "shape"), ((house.ask, "t"), ("ask", "t"), "kind"),
            ((house.set_width, "a", -1), ("width", "a", -1), "shape"), ((house.set_width, "t", 1), ("width", "t", 1), "kind"), ((house.close, "b"), ("close", "b"), "key"),
            ((house.close, 7), ("close", 7), "shape"),
        ):
            check_error(self, InvalidEvent, {"event": event, "reason": reason}, *call)
            check_error(self, InvalidEvent, {"event": event, "reason": reason}, house.go, event)
            check_error(self, InvalidEvent, {"event": event, "reason": reason}, house.do_all, (event,))
            check_error(self, InvalidEvent, {"event": event, "reason": reason}, house.tried, (event,))
            check_same(self, snapshot(house), ahead)
        for event in NO_EVENTS:
            with self.assertRaises(InvalidEvent) as caught:
                house.go(event)
            self.assertIs(caught.exception.event, event)
            check_same(self, (caught.exception.reason, snapshot(house)), ("shape", ahead))

    def test_do_all(self):
        for seed in range(12):
            log = random_log(seed, SUM)
            plain = PlainHouse(SUM)
            answers = tuple(plain.go(event) for event in log)
            for keep in (False, True, 1, None, "x"):
                house = House(SUM)
                check_same(self, house.do_all(events=log, keep=keep), answers)
                check_same(self, house.log(), log)
            house = House(SUM)
            check_same(self, house.tried(events=log), answers)
            check_same(self, snapshot(house), ((), (), (), ()))
            check_same(self, house.do_all(log), answers)
            check_house(self, house, plain)
        check_same(self, House(SUM).do_all(()), ())
        check_same(self, House(SUM).tried(()), ())

    def test_do_all_barred(self):
        first = (("open", "a", ("free", 2)), ("put", "a", 4))
        more = (("put", "a", 5), ("ask", "a"), ("put", "a", 9), ("put", "a", 6))
        fields = {"event": ("put", "a", 9), "reason": "value"}
        for keep, kept in ((False, False), (True, True), (1, False), (0, False), (None, False), ("True", False), ([True], False)):
            house, due = House(SUM), House(SUM)
            house.do_all(first)
            due.do_all(first + (more[:2] if kept else ()))
            check_error(self, InvalidEvent, fields, house.do_all, more, keep)
            check_same(self, snapshot(house), snapshot(due))
            check_error(self, InvalidEvent, fields, house.do_all, events=more, keep=keep)
            check_same(self, len(house.log()), 6 if kept else 2)
        house = House(SUM)
        house.do_all(first)
        ahead = snapshot(house)
        check_error(self, InvalidEvent, fields, house.do_all, more)
        check_same(self, snapshot(house), ahead)
        check_error(self, InvalidEvent, fields, house.tried, more)
        check_same(self, snapshot(house), ahead)
        house.undo(2)
        check_same(self, snapshot(house), ((), (), (), ()))

    def test_undo(self):
        for seed in range(12):
            operation = SEEING[seed % len(SEEING)]
            log = random_log(seed + 50, operation, 30)
            house, past = House(operation), []
            for event in log:
                past.append(snapshot(house))
                house.go(event)
            end = snapshot(house)
            for steps in range(1, len(log) + 1):
                check_same(self, house.undo(steps=steps), None)
                check_same(self, snapshot(house), past[len(log) - steps])
                house.do_all(log[len(log) - steps:])
                check_same(self, snapshot(house), end)
            for steps in (31, 32, 10 ** 30):
                check_error(self, NothingToUndo, {"steps": steps}, house.undo, steps)
                check_same(self, snapshot(house), end)
            for at in reversed(range(len(log))):
                check_same(self, house.undo(), None)
                check_same(self, snapshot(house), past[at])
            check_error(self, NothingToUndo, {"steps": 1}, house.undo)

    def test_undo_behind_a_crash(self):
        house = House(SUM)
        house.do_all((("crash",), ("open", "a", ("free", 0)), ("crash",), ("put", "a", 1), ("close", "a"), ("crash",)))
        house.undo(2)
        check_same(self, (house.open_keys(), house.state_of("a")), (("a",), (1, 0, None, (((0, 1), 1),))))
        house.undo(2)
        check_same(self, (house.open_keys(), house.log(), house.state_of("a")), (("a",), (("crash",), ("open", "a", ("free", 0))), (0, 0, None, ())))

    def test_logs_belong_to_the_caller(self):
        house = House(SUM)
        house.crash()
        early = house.log()
        house.crash()
        check_same(self, (early, house.log()), ((("crash",),), (("crash",), ("crash",))))

    def test_equality(self):
        logs = ((), (("crash",),), (("crash",),) * 2, (("open", "a", ("free", 2)),), (("open", "a", ("free", 2)), ("close", "a")))
        houses = [(operation, log) for operation in (SUM, ("sum", 8), ("most",)) for log in logs]
        made = []
        for operation, log in houses:
            made.append(House(operation))
            made[-1].do_all(log)
        for at, one in enumerate(made):
            for place, other in enumerate(made):
                self.assertIs(one == other, at == place)
                self.assertIs(one != other, at != place)
            for thing in (houses[at], None, houses[at][1], HouseAsks(houses[at][0])):
                self.assertIs(one == thing, False)
                self.assertIs(thing == one, False)
        one, other = House(SUM), House(SUM)
        one.crash()
        self.assertIs(one == other, False)
        one.undo()
        self.assertIs(one == other, True)

    def test_parameters(self):
        house = House(SUM)
        check_parameters(self, house.tried, {"events": ()}, {"events": helpers.NOT_TUPLES})
        for keep in (False, True, None):
            for events in helpers.NOT_TUPLES:
                check_unusable(self, "events", -1, house.do_all, events, keep)
                check_unusable(self, "events", -1, house.do_all, events=events, keep=keep)
        house.do_all((("crash",),) * 5)
        for steps in helpers.NOT_POSITIVE:
            check_unusable(self, "steps", -1, house.undo, steps)
            check_unusable(self, "steps", -1, house.undo, steps=steps)
        check_same(self, len(house.log()), 5)


class TestConsequences(unittest.TestCase):
    """[92] and (G14)."""

    def test_joins(self):
        for seed in range(16):
            operation = SEEING[seed % len(SEEING)]
            house = House(operation)
            twice = {}
            for event in random_log(seed + 100, operation):
                if event[0] in ("open", "close"):
                    twice[event[1]] = False
                if event[0] == "ask":
                    state = house.state_of(event[1])
                    twice[event[1]] = twice[event[1]] or (state[1], state[0]) in house.asked_by(event[1])
                house.go(event)
                for key in house.open_keys():
                    self.check_key(house, key, twice[key])

    def check_key(self, house, key, twice):
        keeper, state, joins = house.keeper_of(key), house.state_of(key), house.joins_by(key)
        place = state[0]
        self.assertGreaterEqual(house.over_by(key), 0)
        if keeper[0] == "steady":
            width = keeper[1][0] - 1
            if place >= width:
                self.assertEqual(joins, first_joins(keeper[1], place - width + 1))
            if keeper[1] == fan(width + 1, width):
                self.assertEqual(house.over_by(key), 0)
        if keeper[0] == "told":
            self.assertEqual(joins, len([triple for triple in due_cuts(keeper[1]) if triple[2] <= place]))
            if house.asked_by(key) == keeper[1]:
                self.assertEqual(house.over_by(key), 0)
        if keeper[0] == "free":
            if not twice:
                self.assertEqual(joins, turning_count(house.asked_by(key)))
            self.assertEqual(house.held_by(key), place - state[1])
        if keeper[0] in ("steady", "ready", "hop"):
            width, hop = {"steady": lambda: (keeper[1][0] - 1, 1), "ready": lambda: (keeper[1][0], 1), "hop": lambda: keeper[1:3]}[keeper[0]]()
            self.assertEqual(house.held_by(key), len([p for p in range(0, place, hop) if p < place < p + width]))

    def test_told_keys_come_to_the_least(self):
        for queue in QUEUES:
            house = House(SUM)
            house.open_key("t", ("told", queue))
            while house.barred(("put", "t", 1)) is None:
                house.put("t", 1)
            check_same(self, (house.asked_by("t"), house.over_by("t")), (queue, 0))

    def test_fans_at_the_last_corner(self):
        for corners in range(2, 8):
            house = House(SUM)
            house.open_key("s", ("steady", fan(corners, corners - 1)))
            for value in range(20):
                house.put("s", value % 9)
                check_same(self, house.over_by("s"), 0)
        house = House(SUM)
        house.open_key("s", ("steady", HEX))
        for value in range(9):
            house.put("s", value)
        self.assertGreater(house.over_by("s"), 0)


if __name__ == "__main__":
    unittest.main()
