"""[91] events and logs as lines, and the desk."""

import unittest
from itertools import product

from tests import helpers
from tests.helpers import FAN5, HEX, PAIR, check_error, check_parameters, check_same, check_unusable
from tests.houses import KEEPERS, PlainHouse, random_log
from tests.test_house import NO_EVENTS, SEEING, SUM, check_house, snapshot
from tests.test_operations import SOME, WRONG_VALUES, sample
from tests.test_replaying import NOT_LOGS, OPENED
from underthree.asktexts import asks_line, read_asks
from underthree.cuttinglines import cutting_line, read_cutting
from underthree.errors import InvalidEvent, InvalidRow, InvalidText
from underthree.eventtexts import desk_line, event_line, log_text, read_event, read_log
from underthree.house import House
from underthree.houseasks import HouseAsks
from underthree.leasts import least_of
from underthree.liveevents import is_event
from underthree.opertexts import read_value, value_line

FIGURES = "0123456789"


def due_keeper_line(keeper):
    word, rest = keeper[0], keeper[1:]
    if word in ("steady", "ready"):
        return word + " " + cutting_line(rest[0])
    if word == "hop":
        return f"hop {rest[0]} {rest[1]} " + cutting_line(rest[2])
    return f"free {rest[0]}" if word == "free" else "told " + asks_line(rest[0])


def due_line(operation, event):
    parts = list(event[:2])
    if event[0] == "put":
        parts.append(value_line(operation, event[2]))
    if event[0] == "width":
        parts.append(str(event[2]))
    if event[0] == "open":
        parts.append(due_keeper_line(event[2]))
    return " ".join(parts)


def is_figures(part):
    return part != "" and all(one in FIGURES for one in part) and (part == "0" or part[0] != "0")


class Stop(Exception):
    """A part can't stand, or lacks."""


def due_read(operation, text):
    """("event", event), ("row", row) or ("field", field), by the words of [91]."""
    parts = text.split(" ")
    taken = []

    def take(fits):
        if len(taken) == len(parts) or not fits(parts[len(taken)]):
            raise Stop(len(taken))
        taken.append(parts[len(taken)])
        return taken[-1]

    def number():
        return int(take(is_figures))

    def rest(read):
        begin = len(taken)
        if begin == len(parts):
            raise Stop(begin)
        taken.extend(parts[begin:])
        try:
            return read(" ".join(parts[begin:]))
        except InvalidText as error:
            raise Stop(begin + error.field) from None

    def end():
        if len(taken) < len(parts):
            raise Stop(len(taken))

    def keeper():
        word = take(lambda part: part in ("steady", "ready", "hop", "free", "told"))
        if word == "free":
            return (word, number())
        if word == "told":
            return (word, rest(read_asks))
        numbers = (number(), number()) if word == "hop" else ()
        return (word, *numbers, rest(read_cutting))

    try:
        word = take(lambda part: part in ("open", "put", "drop", "ask", "width", "close", "crash"))
        row = (word,)
        if word != "crash":
            row += (take(lambda part: 1 <= len(part) <= 8 and all("a" <= one <= "z" for one in part)),)
        if word == "put":
            row += (rest(lambda some: read_value(operation, some)),)
        elif word == "width":
            row += (number(),)
        elif word == "open":
            row += (keeper(),)
        end()
    except Stop as stop:
        return ("field", stop.args[0])
    return ("event" if is_event(row) else "row", row)


def check_read(case, operation, text):
    kind, due = due_read(operation, text)
    if kind == "event":
        check_same(case, read_event(operation=operation, text=text), due)
    elif kind == "row":
        check_error(case, InvalidRow, {"row": due}, read_event, operation, text)
    else:
        check_error(case, InvalidText, {"line": 0, "field": due}, read_event, operation, text)
    return kind


class TestLines(unittest.TestCase):
    def test_by_hand(self):
        for operation, event, line in (
            (SUM, ("crash",), "crash"), (SUM, ("drop", "a"), "drop a"), (SUM, ("ask", "zz"), "ask zz"), (SUM, ("close", "abcdefgh"), "close abcdefgh"),
            (SUM, ("width", "a", 0), "width a 0"), (SUM, ("width", "a", 10 ** 30), f"width a {10 ** 30}"), (SUM, ("put", "a", 8), "put a 8"),
            (("most",), ("put", "a", -8), "put a -8"), (("spans",), ("put", "a", None), "put a nought"), (("spans",), ("put", "a", (0, 2)), "put a 0 2"),
            (("grids", 2, 5), ("put", "b", ((1, 0), (4, 2))), "put b 1 0 4 2"), (SUM, ("open", "a", ("free", 2)), "open a free 2"), (SUM, ("open", "a", ("free", 0)), "open a free 0"),
            (SUM, ("open", "a", ("steady", FAN5)), "open a steady 5; 1 4, 2 4"), (SUM, ("open", "a", ("ready", (3, ()))), "open a ready 3; -"),
            (SUM, ("open", "a", ("hop", 5, 2, (3, ()))), "open a hop 5 2 3; -"), (SUM, ("open", "a", ("told", PAIR)), "open a told 0-3 1-4"),
            (SUM, ("open", "a", ("told", ())), "open a told -"), (SUM, ("open", "open", ("hop", 11, 2, HEX)), "open open hop 11 2 6; 0 2, 0 4, 2 4"),
        ):
            check_same(self, event_line(operation=operation, event=event), line)
            check_same(self, read_event(operation=operation, text=line), event)

    def test_there_and_back(self):
        for operation in SOME:
            events = [("put", "a", value) for value in sample(operation)] + [("open", "b", keeper) for keeper in KEEPERS] + [("width", "c", 7), ("crash",)]
            for event in events:
                check_same(self, event_line(operation, event), due_line(operation, event))
                check_same(self, read_event(operation, due_line(operation, event)), event)
            text = "\n".join(due_line(operation, event) for event in events)
            check_same(self, log_text(operation=operation, log=tuple(events)), text)
            check_same(self, read_log(operation=operation, text=text), tuple(events))
        for seed in range(12):
            operation = SEEING[seed % len(SEEING)]
            log = random_log(seed + 600, operation)
            check_same(self, read_log(operation, log_text(operation, log)), log)
        check_same(self, (log_text(SUM, ()), read_log(SUM, "")), ("", ()))
        check_same(self, (log_text(SUM, (("crash",),)), read_log(SUM, "crash")), ("crash", (("crash",),)))

    def test_each_part(self):
        lines = ("crash", "drop a", "put a 8", "width a 3", "open a free 2", "open a told 0-3 1-4", "open a steady 5; 1 4, 2 4", "open a ready 3; -", "open a hop 5 2 3; -",
                 "open a hop 9 2 5; 1 4, 2 4")
        wrongs = ("", "-", "x", "A", "a", "abcdefghi", "0", "00", "01", "-1", "+1", "9", "10", "1;", "2;", "3;", "4;", "1,", "4,", "0-3", "3-0", "0-1", "crash", "open", "put", "free",
                  "steady", "ready", "hop", "told", "keys", "joins", "a1", "8\n", "\u0661", "Steady", "nought", "0-3,")
        kinds = {}
        for line in lines:
            parts = line.split(" ")
            for at in range(len(parts) + 1):
                check_read(self, SUM, " ".join(parts[:at]))
                for wrong in wrongs:
                    for text in (parts[:at] + [wrong] + parts[at + 1:], parts[:at] + [wrong], parts[:at] + [wrong] + parts[at:]):
                        kinds[check_read(self, SUM, " ".join(text))] = True
        self.assertEqual(set(kinds), {"event", "row", "field"})

    def test_all_short_texts(self):
        for many in range(1, 6):
            for rest in product(("free", "told", "hop", "steady", "0", "2", "2;", "-", "0-2"), repeat=many - 1 if many < 5 else 3):
                check_read(self, SUM, " ".join(("open", "a") + rest))
        for parts in product(("put", "width", "ask", "crash", "a", "B", "3", "9", ""), repeat=3):
            for many in (1, 2, 3):
                check_read(self, SUM, " ".join(parts[:many]))
                check_read(self, ("spans",), " ".join(parts[:many]))
        for parts in product(("nought", "0", "1", "2", "-1"), repeat=3):
            for many in (1, 2, 3):
                check_read(self, ("spans",), "put a " + " ".join(parts[:many]))
                check_read(self, ("most",), "put a " + " ".join(parts[:many]))

    def test_fields_by_hand(self):
        for text, field in (
            ("", 0), (" ", 0), ("x", 0), ("Crash", 0), ("keys", 0), ("joins a", 0), ("crash ", 1), ("crash a", 1), ("drop", 1), ("drop ", 1), ("drop A", 1), ("drop a b", 2),
            ("ask", 1), ("close a ", 2), ("put", 1), ("put a", 2), ("put a ", 2), ("put a 9", 2), ("put a 3 4", 3), ("put a x 4", 2), ("width a", 2), ("width a -1", 2),
            ("width a 01", 2), ("width a 1 1", 3), ("open", 1), ("open a", 2), ("open a fre", 2), ("open a free", 3), ("open a free -1", 3), ("open a free 1 1", 4),
            ("open a told", 3), ("open a told ", 3), ("open a told - -", 4), ("open a told 0-3 0-3", 4), ("open a told 0-3 0-2", 4), ("open a told 0-1 x", 4),
            ("open a steady", 3), ("open a steady 3", 3), ("open a steady 3;", 4), ("open a steady 3; 0", 4), ("open a steady 3; - -", 5), ("open a steady 5; 1 4,", 6),
            ("open a steady 5; 1 4, 2 3", 7), ("open a ready 1; -", 3), ("open a hop", 3), ("open a hop 5", 4), ("open a hop x 2 3; -", 3), ("open a hop 5 -2 3; -", 4),
            ("open a hop 5 2", 5), ("open a hop 5 2 3", 5), ("open a hop 5 2 3;", 6), ("open a hop 5 2 3; - 1", 7), ("open a hop 5 2 5; 1 4, 2 3", 9), ("open A hop x", 1),
        ):
            check_error(self, InvalidText, {"line": 0, "field": field}, read_event, SUM, text)
            check_same(self, due_read(SUM, text), ("field", field))
            check_error(self, InvalidText, {"line": 2, "field": field}, read_log, SUM, "crash\ndrop a\n" + text + "\nx")

    def test_rows(self):
        for text, row in (
            ("open a hop 0 0 2; -", ("open", "a", ("hop", 0, 0, (2, ())))), ("open a hop 5 0 3; -", ("open", "a", ("hop", 5, 0, (3, ())))),
            ("open a hop 0 1 2; -", ("open", "a", ("hop", 0, 1, (2, ())))), ("open a hop 2 3 2; -", ("open", "a", ("hop", 2, 3, (2, ())))),
            ("open b hop 5 2 2; -", ("open", "b", ("hop", 5, 2, (2, ())))), ("open b hop 5 2 5; 1 4, 2 4", ("open", "b", ("hop", 5, 2, FAN5))),
            ("open a told 0-4 1-2", ("open", "a", ("told", ((0, 4), (1, 2))))),
        ):
            check_error(self, InvalidRow, {"row": row}, read_event, SUM, text)
            check_error(self, InvalidRow, {"row": row}, read_log, SUM, "crash\n" + text + "\nx")
            check_error(self, InvalidText, {"line": 1, "field": 0}, read_log, SUM, "crash\nx\n" + text)
            check_error(self, InvalidRow, {"row": row}, desk_line, House(SUM), text)

    def test_each_line(self):
        good = ["open a free 2", "put a 4", "crash", "ask a", "width a 0"]
        for at in range(len(good) + 1):
            for wrong, field in (("", 0), (" ", 0), ("put a 9", 2), ("put a", 2), ("crash ", 1), ("open a steady 5; 1 4, 2 3", 7), ("ask a\r", 1)):
                for lines in (good[:at] + [wrong] + good[at:], good[:at] + [wrong], good[:at] + [wrong, "x", wrong]):
                    if lines != [""]:
                        check_error(self, InvalidText, {"line": at, "field": field}, read_log, SUM, "\n".join(lines))
        check_same(self, read_log(SUM, "\n".join(good)), tuple(read_event(SUM, line) for line in good))
        check_error(self, InvalidText, {"line": 1, "field": 0}, read_log, SUM, "crash\n")
        check_error(self, InvalidText, {"line": 0, "field": 0}, read_log, SUM, "\ncrash")
        check_error(self, InvalidText, {"line": 0, "field": 0}, read_event, SUM, "crash\ncrash")

    def test_parameters(self):
        not_events = NO_EVENTS + (("put", "a", 9), ("put", "a", True), ("put", "a", None))
        not_logs = NOT_LOGS + ((("put", "a", 9),), OPENED + (("put", "a", -1),))
        check_parameters(self, event_line, {"operation": SUM, "event": ("put", "a", 8)}, {"operation": helpers.NOT_OPERATIONS, "event": not_events})
        check_parameters(self, log_text, {"operation": SUM, "log": OPENED}, {"operation": helpers.NOT_OPERATIONS, "log": not_logs})
        for function in (read_event, read_log):
            check_parameters(self, function, {"operation": SUM, "text": "crash"}, {"operation": helpers.NOT_OPERATIONS, "text": helpers.NOT_TEXT})
        for operation in SOME:
            for wrong in WRONG_VALUES[operation[0]]:
                check_unusable(self, "event", -1, event_line, operation, ("put", "a", wrong))
                check_unusable(self, "log", -1, log_text, operation, (("crash",), ("put", "a", wrong)))


def due_answer(operation, event, answer):
    if event[0] == "ask":
        return "none" if answer is None else asks_line((answer[0],)) + " " + value_line(operation, answer[1])
    if not answer:
        return "done"
    return "; ".join(asks_line((ask,)) + " " + value_line(operation, value) for ask, value in answer)


class TestDesk(unittest.TestCase):
    def test_by_hand(self):
        live = House(SUM)
        for text, answer in (
            ("keys", "-"), ("report", "-"), ("crash", "done"), ("open b free 2", "done"), ("ask b", "none"), ("put b 4", "done"), ("ask b", "0-1 4"), ("put b 6", "done"),
            ("ask b", "0-2 1"), ("open a told 0-2 0-3 1-3", "done"), ("keys", "a b"), ("put a 1", "done"), ("put a 2", "0-2 3"), ("put a 3", "0-3 6; 1-3 5"),
            ("report", "a 3 3 3; b 2 1 1"), ("joins a", "3"), ("least a", "3"), ("held a", "0"), ("joins b", "1"), ("held b", "2"), ("least b", "1"),
            ("open c steady 2; -", "done"), ("put c 7", "0-1 7"), ("drop b", "done"), ("width b 0", "done"), ("close a", "done"), ("keys", "b c"),
            ("report", "b 2 1 1; c 1 0 0"), ("held b", "1"), ("held c", "0"),
        ):
            check_same(self, desk_line(live=live, text=text), answer)
        self.assertEqual(live.log()[0], ("crash",))
        self.assertNotIn("keys", [event[0] for event in live.log()])
        spans = House(("spans",))
        check_same(self, [desk_line(spans, text) for text in ("open a steady 3; -", "put a 0 1", "put a nought", "put a 0 1", "put a 1 3")],
                   ["done", "done", "0-2 nought", "1-3 nought", "2-4 0 3"])

    def test_random_logs(self):
        for seed in range(12):
            operation = SEEING[seed % len(SEEING)]
            live, plain = House(operation), PlainHouse(operation)
            for event in random_log(seed + 700, operation):
                check_same(self, desk_line(live, due_line(operation, event)), due_answer(operation, event, plain.go(event)))
                ahead = snapshot(live) if seed % 4 == 0 else None
                check_same(self, desk_line(live, "keys"), " ".join(sorted(plain.keys)) or "-")
                rows = [(key, own.place(), own.joins, least_of(tuple(sorted(own.asked)))) for key, own in sorted(plain.keys.items())]
                check_same(self, desk_line(live, "report"), "; ".join(" ".join(map(str, row)) for row in rows) or "-")
                for key, _, joins, least in rows:
                    check_same(self, [desk_line(live, f"{word} {key}") for word in ("joins", "least", "held")],
                               [str(joins), str(least), str(len(plain.keys[key].stretches()))])
                if ahead is not None:
                    check_same(self, snapshot(live), ahead)
            check_house(self, live, plain)

    def test_refused(self):
        live = House(SUM)
        live.do_all(OPENED)
        ahead = snapshot(live)
        for text, field in (("", 0), ("Keys", 0), ("keys ", 1), ("keys a", 1), ("report a", 1), ("report ", 1), ("joins", 1), ("joins ", 1), ("joins b", 1), ("joins A", 1),
                            ("joins b b", 1), ("joins a b", 2), ("joins a ", 2), ("least", 1), ("least zz", 1), ("least a a", 2), ("held", 1), ("held b", 1), ("held a a", 2),
                            ("put a 9", 2), ("put a", 2), ("ask", 1), ("open b free", 3), ("open b steady 5; 1 4, 2 3", 7), ("crash a", 1), ("over a", 0), ("crash\ncrash", 0)):
            check_error(self, InvalidText, {"line": 0, "field": field}, desk_line, live, text)
        for text, event, reason in (("put b 1", ("put", "b", 1), "key"), ("open a free 0", ("open", "a", ("free", 0)), "open"), ("close b", ("close", "b"), "key"),
                                    ("ask b", ("ask", "b"), "key")):
            check_error(self, InvalidEvent, {"event": event, "reason": reason}, desk_line, live, text)
        check_same(self, snapshot(live), ahead)
        desk_line(live, "drop a")
        check_error(self, InvalidEvent, {"event": ("drop", "a"), "reason": "none"}, desk_line, live, "drop a")
        check_same(self, desk_line(live, "ask a"), "none")
        desk_line(live, "open t told -")
        check_error(self, InvalidEvent, {"event": ("put", "t", 3), "reason": "full"}, desk_line, live, "put t 3")
        check_error(self, InvalidEvent, {"event": ("width", "t", 3), "reason": "kind"}, desk_line, live, "width t 3")

    def test_parameters(self):
        live = House(SUM)
        not_houses = helpers.NOT_TUPLES + (HouseAsks(SUM), House, SUM, ())
        check_parameters(self, desk_line, {"live": live, "text": "keys"}, {"live": not_houses, "text": helpers.NOT_TEXT})
        check_same(self, snapshot(live), ((), (), (), ()))


if __name__ == "__main__":
    unittest.main()
