"""[83] and [84] keys, keepers, events, logs; [85] states of keys; [86] free keys."""

import random
import unittest

from tests import helpers
from tests.helpers import FAN5, HEX, PAIR, check_parameters, check_same, check_unusable
from tests.houses import FIXED, FREE, KEEPERS, QUEUES, TOLD, PlainKey
from tests.test_operations import SOME, WRONG_VALUES, sample
from underthree.freekeys import free_ask, free_drop, free_put, free_width
from underthree.keystates import key_begun, key_full, key_put
from underthree.liveevents import is_event, is_keeper, is_key, is_log

SUM = ("sum", 9)
SEEING = (("maps", 3), ("brackets",), ("grids", 2, 5), ("spans",), ("last",), ("first",))
NOT_KEYS = (None, True, 0, 1, (), ("a",), ["a"], "", "A", "aB", "abcdefghi", "a b", "a1", "1", "-", "_", "a-", " a", "a ", "a\n", "\n", "\xe4", "\u0430", b"a")
NOT_HOPS = (
    ("hop",), ("hop", 5, 2), ("hop", 5, 2, (3, ()), 1), ("hop", 0, 1, (2, ())), ("hop", 1, 0, (2, ())), ("hop", 0, 0, (2, ())), ("hop", 1, 2, (2, ())),
    ("hop", 5, 2, (2, ())), ("hop", 5, 2, FAN5), ("hop", 5, 2, (3, ((0, 2),))), ("hop", True, 1, (2, ())), ("hop", 1, True, (2, ())), ("hop", "5", 2, (3, ())),
    ("hop", 5, None, (3, ())), ("hop", 5, 2, None), ("hop", (3, ())), ["hop", 5, 2, (3, ())], ("hop", -5, 2, (3, ())), ("hop", 5, -2, (3, ())), ("hop", 1, 1, (1, ())),
)
NOT_KEEPERS = helpers.NOT_TUPLES + NOT_HOPS + (
    (), ("steady",), ("steady", (3, ()), 1), ("steady", 3), ("steady", (4, ())), ("steady", None), ["steady", (3, ())], ("ready",), ("ready", (1, ())),
    ("ready", (3, ()), ()), ("ready", True), ("free",), ("free", -1), ("free", True), ("free", None), ("free", "2"), ("free", (2,)), ("free", 1, 2), ("told",),
    ("told", ((0, 4), (1, 2))), ("told", ((0, 1), (0, 1))), ("told", None), ("told", [(0, 1)]), ("told", ((0, True),)), ("told", (), ()), ("told", (0, 1)),
    ("Steady", (3, ())), ("", (3, ())), (None, (3, ())), (("steady",), (3, ())), (["steady"], (3, ())), ("open", (3, ())), ((3, ()), "steady"), ("other", 3),
)
NOT_STEADY_STATES = helpers.NOT_TUPLES + (
    (), (0, None, None), (0, None, None, (), ()), [0, None, None, ()], (-1, None, None, ()), (True, None, None, ()), ("0", None, None, ()), (None, None, None, ()),
    (0, 0, None, ()), (0, None, 0, ()), (0, 0, 0, ()), (0, False, None, ()), (0, None, False, ()), (0, None, None, []), (0, None, None, None), (0, None, None, 0),
)
NOT_FREE_STATES = helpers.NOT_TUPLES + (
    (), (0, 0, None), (0, 0, None, (), ()), [0, 0, None, ()], (-1, 0, None, ()), (True, 0, None, ()), (1, True, None, ()), (1, 0, True, ()), (0, None, None, ()),
    (0, 1, None, ()), (1, -1, None, ()), (1, 0, 2, ()), (1, 0, -1, ()), (1, 0, False, ()), (1, "0", None, ()), (1, 0, "1", ()), (0, 0, None, []), (0, 0, None, None),
    (2, False, None, ()),
)


class TestKinds(unittest.TestCase):
    def test_keys(self):
        for key in ("a", "z", "abcdefgh", "zzzzzzzz", "open", "none"):
            self.assertIs(is_key(key), True)
        for letter in map(chr, range(128)):
            self.assertIs(is_key(letter), "a" <= letter <= "z")
            self.assertIs(is_key("ab" + letter), "a" <= letter <= "z")
        for thing in NOT_KEYS:
            self.assertIs(is_key(thing), False)

    def test_keepers(self):
        for keeper in KEEPERS + (("free", 10 ** 60), ("hop", 40, 40, (2, ())), ("hop", 40, 1, helpers_fan(41))):
            self.assertIs(is_keeper(keeper), True)
        for thing in NOT_KEEPERS:
            self.assertIs(is_keeper(thing), False, thing)
        for cutting in helpers.NOT_CUTTINGS:
            for word in ("steady", "ready"):
                self.assertIs(is_keeper((word, cutting)), False)
            self.assertIs(is_keeper(("hop", 5, 2, cutting)), False)
        for row in helpers.NOT_ASKS + tuple(row for row, _, _ in helpers.CROSSED):
            self.assertIs(is_keeper(("told", row)), False)
        for thing in helpers.NOT_NUMBERS:
            self.assertIs(is_keeper(("free", thing)), False)

    def test_events(self):
        good = [("crash",), ("drop", "a"), ("ask", "abcdefgh"), ("close", "z"), ("width", "a", 0), ("width", "a", 10 ** 60)]
        good += [("put", "a", value) for value in (None, True, 0, -1, "x", [], [(1,)], ((),), 10 ** 59, ("put", "a"))]
        good += [("open", "a", keeper) for keeper in KEEPERS]
        for event in good:
            self.assertIs(is_event(event), True)
            self.assertIs(is_event(list(event)), False)
            self.assertIs(is_event(event + (1,)), False)
            self.assertIs(is_event(event[:-1]), False)
            self.assertIs(is_event((event[0].upper(),) + event[1:]), False)
            self.assertIs(is_event((None,) + event[1:]), False)
            if len(event) > 1:
                for key in NOT_KEYS:
                    self.assertIs(is_event((event[0], key) + event[2:]), False)
        for thing in helpers.NOT_TUPLES + ((), ("open",), ("open", "a"), ("put", "a"), ("width", "a"), ("crash", "a"), ("drop", "a", "a"), ([], "a"), (["ask"], "a"), "crash",
                                           ("opens", "a", ("free", 0)), ("keys",), ("joins", "a"), ("a", "ask")):
            self.assertIs(is_event(thing), False)
        for thing in NOT_KEEPERS:
            self.assertIs(is_event(("open", "a", thing)), False)
        for thing in helpers.NOT_NUMBERS:
            self.assertIs(is_event(("width", "a", thing)), False)
        for event in good:
            for other in good:
                self.assertIs(is_log((event, other)), True)
            self.assertIs(is_log([event]), False)
            self.assertIs(is_log(event), False)
            self.assertIs(is_log((event, None)), False)
            self.assertIs(is_log((list(event), event)), False)
        self.assertIs(is_log(()), True)
        for thing in helpers.NOT_TUPLES + ((1,), ((),), ("crash",), (("crash",), ("crash", 1))):
            self.assertIs(is_log(thing), False)


def helpers_fan(corners):
    return (corners, tuple((at, corners - 1) for at in range(1, corners - 2)))


def feed_for(operation, many):
    values = sample(operation)
    return tuple(values[(5 * at + 2) % len(values)] for at in range(many))


class TestStates(unittest.TestCase):
    def test_example(self):
        got = key_put(("steady", (3, ())), (1, None, None, (((0, 1), 5),)), ("sum", 9), 7)
        check_same(self, got, ((2, None, None, (((1, 2), 7),)), (((0, 2), 3),), 1))

    def test_begun(self):
        for keeper in KEEPERS:
            check_same(self, key_begun(keeper=keeper), (0, 0, None, ()) if keeper[0] == "free" else (0, None, None, ()))
            check_same(self, key_begun(keeper), PlainKey(keeper, SUM).state())

    def run_key(self, keeper, operation, many):
        """All of a key's life, step by step beside the plain reckoning."""
        state, plain = key_begun(keeper), PlainKey(keeper, operation)
        for value in feed_for(operation, many):
            check_same(self, key_full(keeper=keeper, state=state), plain.full())
            if plain.full():
                check_unusable(self, "state", -1, key_put, keeper, state, operation, value)
                break
            ahead = plain.joins
            due = plain.put(value)
            state, answers, joins = key_put(keeper=keeper, state=state, operation=operation, value=value)
            check_same(self, (answers, joins, state), (due, plain.joins - ahead, plain.state()))
        return plain

    def test_all_kinds(self):
        for at, keeper in enumerate(FIXED + TOLD):
            for operation in (SEEING[at % len(SEEING)], SOME[at % len(SOME)]):
                self.run_key(keeper, operation, 30)
        for operation in SOME:
            for keeper in (("steady", HEX), ("ready", FAN5), ("hop", 7, 3, (3, ())), ("hop", 6, 3, (3, ())), ("told", QUEUES[2])):
                self.run_key(keeper, operation, 20)

    def test_small_widths(self):
        plain = self.run_key(("steady", (2, ())), SUM, 5)
        check_same(self, (plain.joins, plain.state()[3]), (0, ()))
        plain = self.run_key(("ready", (2, ())), SUM, 5)
        check_same(self, (plain.joins, len(plain.state()[3])), (4, 1))
        plain = self.run_key(("hop", 1, 1, (2, ())), SUM, 5)
        check_same(self, plain.joins, 0)
        plain = self.run_key(("hop", 4, 4, (2, ())), SUM, 10)
        check_same(self, (plain.joins, plain.state()[3]), (7, (((8, 10), plain.worth((8, 10))),)))
        plain = self.run_key(("hop", 5, 3, (2, ())), SUM, 9)
        check_same(self, (plain.joins, sorted(plain.asked)), (8, [(0, 5), (3, 8)]))

    def test_told(self):
        check_same(self, key_full(("told", ()), (0, None, None, ())), True)
        check_same(self, [key_full(("told", PAIR), (place, None, None, ())) for place in (0, 3, 4, 5)], [False, False, True, True])
        for keeper in FIXED + FREE:
            check_same(self, key_full(keeper, (900, 0, None, ()) if keeper[0] == "free" else (900, None, None, ())), False)
        state, found = key_begun(("told", QUEUES[5])), []
        for value in (1, 2, 3, 4, 5, 6):
            state, answers, joins = key_put(("told", QUEUES[5]), state, SUM, value)
            found.append((answers, joins))
        check_same(self, found[2:], [((((0, 3), 6),), 2), ((((0, 4), 1), ((1, 4), 0)), 2), ((), 0), ((((5, 6), 6),), 0)])
        check_same(self, state, (6, None, None, ()))

    def test_as_large_as_may_be(self):
        cutting = helpers_fan(60)
        for keeper in (("steady", cutting), ("ready", cutting), ("hop", 40, 7, helpers_fan(6)), ("hop", 40, 8, helpers_fan(6)),
                       ("told", tuple((at, at + 61) for at in range(20)))):
            self.run_key(keeper, ("maps", 3), 75)

    def test_parameters(self):
        check_parameters(self, key_begun, {"keeper": ("free", 0)}, {"keeper": NOT_KEEPERS})
        bad = {"keeper": NOT_KEEPERS, "state": NOT_STEADY_STATES}
        check_parameters(self, key_full, {"keeper": ("told", PAIR), "state": (0, None, None, ())}, bad)
        check_parameters(self, key_full, {"keeper": ("free", 3), "state": (0, 0, None, ())}, dict(bad, state=NOT_FREE_STATES))
        bad = dict(bad, keeper=NOT_KEEPERS + FREE, operation=helpers.NOT_OPERATIONS, value=helpers.NOT_NUMBERS + (9, 10))
        check_parameters(self, key_put, {"keeper": ("hop", 5, 2, (3, ())), "state": (0, None, None, ()), "operation": SUM, "value": 0}, bad)
        bad["state"] += ((4, None, None, ()), (5, None, None, ()))
        check_parameters(self, key_put, {"keeper": ("told", PAIR), "state": (0, None, None, ()), "operation": SUM, "value": 0}, bad)
        for operation in SOME:
            for wrong in WRONG_VALUES[operation[0]]:
                check_unusable(self, "value", -1, key_put, ("ready", FAN5), (0, None, None, ()), operation, wrong)


class TestFree(unittest.TestCase):
    def test_random_lives(self):
        for seed in range(120):
            source = random.Random(seed)
            operation = SEEING[seed % len(SEEING)]
            values = sample(operation)
            keeper = ("free", source.choice((0, 0, 1, 2, 3, 5, 8)))
            state, plain = key_begun(keeper), PlainKey(keeper, operation)
            for _ in range(60):
                draw = source.random()
                if draw < 0.5:
                    value = source.choice(values)
                    plain.put(value)
                    state = free_put(keeper=keeper, state=state, operation=operation, value=value)
                elif draw < 0.75:
                    ahead = plain.joins
                    due = plain.ask()
                    state, answer, joins = free_ask(state=state, operation=operation)
                    check_same(self, (answer, joins), (due, plain.joins - ahead))
                elif draw < 0.93 and plain.front < plain.place():
                    plain.drop()
                    state = free_drop(state=state)
                else:
                    width = source.choice((0, 1, 2, 3, 4, 40))
                    keeper = ("free", width)
                    plain.set_width(width)
                    state = free_width(state=state, width=width)
                check_same(self, state, plain.state())

    def test_asked_of_nothing(self):
        for state in ((0, 0, None, ()), (5, 5, None, ()), (5, 5, 5, ())):
            check_same(self, free_ask(state, SUM), (state, None, 0))

    def test_by_hand(self):
        state = (0, 0, None, ())
        for value in (1, 2, 3):
            state = free_put(("free", 0), state, SUM, value)
        check_same(self, state, (3, 0, None, (((0, 1), 1), ((1, 2), 2), ((2, 3), 3))))
        state, answer, joins = free_ask(state, SUM)
        check_same(self, (state, answer, joins), ((3, 0, 3, (((0, 3), 6), ((1, 3), 5), ((2, 3), 3))), ((0, 3), 6), 2))
        check_same(self, free_ask(state, SUM), (state, ((0, 3), 6), 0))
        for value in (4, 5, 6):
            state = free_put(("free", 0), state, SUM, value)
        state, answer, joins = free_ask(state, SUM)
        held = (((0, 3), 6), ((1, 3), 5), ((2, 3), 3), ((3, 6), 6), ((4, 5), 5), ((5, 6), 6))
        check_same(self, (state, answer, joins), ((6, 0, 3, held), ((0, 6), 3), 3))
        # What lies on both sides of the pole is joined at each asking.
        check_same(self, free_ask(state, SUM), (state, ((0, 6), 3), 1))
        for many in (1, 2):
            state = free_drop(state)
            check_same(self, state, (6, many, 3, held[many:]))
        state = free_drop(state)
        check_same(self, state, (6, 3, 3, held[3:]))
        check_same(self, free_ask(state, SUM), (state, ((3, 6), 6), 0))
        state = free_drop(state)
        check_same(self, state, (6, 4, None, held[4:]))
        state, answer, joins = free_ask(state, SUM)
        check_same(self, (state, answer, joins), ((6, 4, 6, (((4, 6), 2), ((5, 6), 6))), ((4, 6), 2), 1))
        state = free_drop(free_drop(state))
        check_same(self, state, (6, 6, 6, ()))
        check_unusable(self, "state", -1, free_drop, state)
        state = free_put(("free", 1), free_put(("free", 1), state, SUM, 7), SUM, 8)
        check_same(self, state, (8, 7, None, (((7, 8), 8),)))

    def test_widths(self):
        state = (0, 0, None, ())
        for value in range(6):
            state = free_put(("free", 4), state, SUM, value)
        check_same(self, state[:2], (6, 2))
        for width, front in ((0, 2), (4, 2), (5, 2), (40, 2), (10 ** 30, 2), (3, 3), (2, 4), (1, 5)):
            check_same(self, free_width(state, width), (6, front, None, state[3][front - 2:]))
        state = free_put(("free", 0), state, SUM, 6)
        check_same(self, state[:2], (7, 2))
        check_same(self, free_put(("free", 3), state, SUM, 7)[:2], (8, 5))
        check_same(self, free_width((0, 0, None, ()), 1), (0, 0, None, ()))

    def test_parameters(self):
        value = helpers.NOT_NUMBERS + (9,)
        not_free = NOT_KEEPERS + FIXED[:3] + FIXED[-3:] + TOLD[:3]
        check_parameters(self, free_put, {"keeper": ("free", 2), "state": (0, 0, None, ()), "operation": SUM, "value": 0},
                         {"keeper": not_free, "state": NOT_FREE_STATES, "operation": helpers.NOT_OPERATIONS, "value": value})
        check_parameters(self, free_drop, {"state": (1, 0, None, (((0, 1), 5),))}, {"state": NOT_FREE_STATES + ((0, 0, None, ()), (4, 4, 4, ()), (4, 4, None, ()))})
        check_parameters(self, free_ask, {"state": (0, 0, None, ()), "operation": SUM}, {"state": NOT_FREE_STATES, "operation": helpers.NOT_OPERATIONS})
        check_parameters(self, free_width, {"state": (0, 0, None, ()), "width": 0}, {"state": NOT_FREE_STATES, "width": helpers.NOT_NUMBERS})


if __name__ == "__main__":
    unittest.main()
