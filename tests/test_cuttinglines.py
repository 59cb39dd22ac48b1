"""[61] cuttings as lines and as objects, and what [62] says of them."""

import re
import unittest
from itertools import product

from tests import helpers
from tests.cuttings import EDGES, LONG, SMALL, all_cuttings, crosses, due_count, due_number, due_prices, due_turned, is_side, stretches_of
from tests.helpers import FAN5, HEX, check_parameters, check_same, check_text, check_unusable
from underthree.cornerprices import cutting_by
from underthree.cuttingclasses import Cutting
from underthree.cuttinglines import cutting_line, read_cutting
from underthree.cutnumbers import cutting_at, number_of
from underthree.earpapers import ear_paper, lets_ears
from underthree.shapes import mirrored_cutting, turned_cutting

ALL = SMALL + LONG + EDGES
FIGURES = re.compile("(?:0|[1-9][0-9]*)\\Z")


def due_line(cutting):
    corners, chords = cutting
    return f"{corners}; " + (", ".join(f"{one} {other}" for one, other in chords) or "-")


def due_field(text):
    """The field of the error of a text, by the words of [61]; None for a line."""
    parts = text.split(" ")
    if not parts[0].endswith(";") or not FIGURES.match(parts[0][:-1]) or int(parts[0][:-1]) < 2:
        return 0
    corners = int(parts[0][:-1])
    wanted = 2 if corners < 4 else 1 + 2 * (corners - 3)
    chords = []
    for at, part in enumerate(parts[1:wanted], 1):
        if corners < 4:
            if part != "-":
                return at
            continue
        if at % 2 == 0 and at < wanted - 1:
            if not part.endswith(","):
                return at
            part = part[:-1]
        if not FIGURES.match(part):
            return at
        if at % 2 == 0:
            chord = (int(parts[at - 1]), int(part))
            no_chord = not 0 <= chord[0] < chord[1] < corners or is_side(corners, chord)
            if no_chord or (chords and chord <= chords[-1]) or any(crosses(chord, one) for one in chords):
                return at
            chords.append(chord)
    return None if len(parts) == wanted else min(len(parts), wanted)


class TestLines(unittest.TestCase):
    def test_examples(self):
        check_same(self, [cutting_line((3, ())), cutting_line(FAN5)], ["3; -", "5; 1 4, 2 4"])
        check_same(self, [read_cutting("3; -"), read_cutting("5; 1 4, 2 4")], [(3, ()), FAN5])
        check_text(self, 4, read_cutting, "5; 1 4, 2 3")

    def test_there_and_back(self):
        for cutting in ALL:
            check_same(self, cutting_line(cutting), due_line(cutting))
            check_same(self, read_cutting(text=due_line(cutting)), cutting)
        check_same(self, [cutting_line((2, ())), read_cutting("2; -")], ["2; -", (2, ())])

    def check(self, text):
        field = due_field(text)
        if field is None:
            check_same(self, cutting_line(read_cutting(text)), text)
        else:
            check_text(self, field, read_cutting, text)
        return field is None

    def test_all_short_texts(self):
        for parts in product(("2;", "3;", "4;", "5;", "-", "0", "2", "3", "1,", ""), repeat=3):
            for many in (1, 2, 3):
                self.check(" ".join(parts[:many]))
        numbers = ("0", "1", "2", "3", "4")
        lines = 0
        for one, other, third, last in product(numbers, repeat=4):
            lines += self.check(f"5; {one} {other}, {third} {last}")
            self.check(f"5; {one} {other}, {third}")
            self.check(f"5; {one} {other} {third} {last}")
        self.assertEqual(lines, 5)
        lines = sum(self.check(f"4; {one} {other}") for one, other in product(numbers, repeat=2))
        self.assertEqual(lines, 2)

    def test_each_part_of_a_line(self):
        for line in ("5; 1 4, 2 4", "6; 0 2, 0 4, 2 4", "4; 1 3", "2; -", "3; -"):
            parts = line.split(" ")
            for at in range(len(parts)):
                for wrong in ("", "-", "x", "+1", "-1", "01", "1.", "1;", "1,", "1:", ",", ";", "1;;", "4,,", "4;,", "\u0661", "1\n", "99", "99,",
                              "0;", "1;", "-5;", "05;", "5", "5,", "5; "):
                    self.check(" ".join(parts[:at] + [wrong] + parts[at + 1:]))
                    self.check(" ".join(parts[:at] + [wrong]))
                check_text(self, at, read_cutting, " ".join(parts[:at])) if at else None
            check_text(self, len(parts), read_cutting, line + " ")
            check_text(self, len(parts), read_cutting, line + " 0")
            check_text(self, len(parts), read_cutting, line + " -")

    def test_words_of_chords(self):
        # No chord, not above the one ahead, crossing an earlier one: always the second part, whatever the first one is.
        for text, field in (("5; 1 2, 2 4", 2), ("5; 0 4, 2 4", 2), ("5; 4 1, 2 4", 2), ("5; 9 4, 2 4", 2), ("5; 1 5, 2 4", 2), ("5; 3 3, x y", 2),
                            ("5; 2 4, 1 4", 4), ("5; 1 4, 1 4", 4), ("5; 0 2, 1 3", 4), ("6; 0 2, 0 3, 1 4", 6), ("6; 0 2, 2 4, 0 4", 6),
                            ("5; 1 4,, 2 4", 2), ("5; 1 4, 2 4,", 4), ("5; 1 4 2 4", 2), ("5; 1, 4, 2 4", 1), ("5; -", 1), ("2; 0 1", 1), ("3; 0 2", 1),
                            ("4; -", 1), ("5;", 1), ("5; 1", 2), ("5; 1 4,", 3), ("5; 1 4, 2", 4), ("2;", 1), ("", 0), ("60;", 1), ("1; -", 0)):
            check_text(self, field, read_cutting, text)
            self.assertEqual(due_field(text), field)
        check_text(self, 3, read_cutting, f"{10 ** 30}; 0 2,")
        check_text(self, 2, read_cutting, f"{10 ** 30}; 0 {10 ** 30 - 1},")

    def test_parameters(self):
        check_parameters(self, cutting_line, {"cutting": HEX}, {"cutting": helpers.NOT_CUTTINGS})
        check_parameters(self, read_cutting, {"text": "2; -"}, {"text": helpers.NOT_TEXT})


class TestCutting(unittest.TestCase):
    def test_methods(self):
        for cutting in SMALL[::3] + EDGES + (LONG[0],):
            corners, chords = cutting
            live = Cutting(corners, *chords)
            check_same(self, (live.told(), live.number(), live.worst()), (cutting, due_number(cutting), max(due_prices(cutting))))
            check_same(self, live.prices(), due_prices(cutting))
            for by in (0, 1, corners, 10 ** 30):
                self.assertIs(type(live.turn(by=by)), Cutting)
                check_same(self, live.turn(by).told(), due_turned(cutting, by))
            self.assertIs(type(live.mirror()), Cutting)
            check_same(self, live.mirror().told(), mirrored_cutting(cutting))
            for many in (0, 1, 2, 5):
                check_same(self, live.first(many=many), len(stretches_of(cutting, many)))
            check_same(self, live.told(), cutting)
        check_same(self, Cutting(5, (1, 4), (2, 4)).first(10 ** 30), 18 * 10 ** 29)
        check_same(self, Cutting(corners=3).told(), (3, ()))
        check_same(self, Cutting(2).told(), (2, ()))

    def test_equality(self):
        for one in SMALL[:9]:
            for other in SMALL[:9]:
                self.assertIs(Cutting(one[0], *one[1]) == Cutting(other[0], *other[1]), one == other)
                self.assertIs(Cutting(one[0], *one[1]) != Cutting(other[0], *other[1]), one != other)
            for thing in (one, list(one), None, one[0], cutting_line(one)):
                self.assertIs(Cutting(one[0], *one[1]) == thing, False)
                self.assertIs(thing == Cutting(one[0], *one[1]), False)

    def test_errors(self):
        for wrong in helpers.NOT_CORNERS:
            check_unusable(self, "corners", -1, Cutting, wrong)
            check_unusable(self, "corners", -1, Cutting, wrong, (0, 2))
            check_unusable(self, "corners", -1, Cutting, wrong, None)
        for corners, chords in ((2, ((0, 1),)), (3, ((0, 2),)), (4, ()), (4, ((0, 1),)), (4, (None,)), (4, ([0, 2],)), (4, ((0, True),)), (4, ((False, 2),)),
                                (4, ((0, 2), (1, 3))), (5, ((2, 4), (0, 2))), (5, ((0, 2), (1, 3))), (5, ((0, 2),)), (5, ((0, 2), (0, 2))), (5, (((0, 2), (2, 4)),))):
            check_unusable(self, "chords", -1, Cutting, corners, *chords)
        live = Cutting(*((6,) + HEX[1]))
        check_parameters(self, live.turn, {"by": 1}, {"by": helpers.NOT_NUMBERS})
        check_parameters(self, live.first, {"many": 1}, {"many": helpers.NOT_NUMBERS})


class TestConsequences(unittest.TestCase):
    def test_there_and_back(self):
        for corners in range(2, 8):
            for number in range(due_count(corners)):
                cutting = cutting_at(corners, number)
                self.assertEqual(number_of(cutting), number)
                self.assertEqual(read_cutting(cutting_line(cutting)), cutting)
        for cutting in all_cuttings(7) + LONG:
            live = Cutting(cutting[0], *cutting[1])
            self.assertEqual(sum(live.prices()), 3 * (cutting[0] - 2))
            self.assertEqual(cutting_by(live.prices()), cutting)
            self.assertEqual(lets_ears(live.prices(), ear_paper(cutting)), cutting)
            self.assertEqual(live.turn(1).told(), turned_cutting(cutting, 1))


if __name__ == "__main__":
    unittest.main()
