"""[75] join rows of use, [76] best programs, what [81] says of both, and of [11] the guarantee (G11)."""

import unittest
from fractions import Fraction
from functools import lru_cache
from math import gcd

from tests import helpers
from tests.cuttings import EDGES as FEW
from tests.cuttings import SMALL, all_cuttings, are_joined
from tests.helpers import FAN5, HEX, check_parameters, check_same, check_unusable
from tests.programs import (
    CUTTINGS, DUO, LEAN, TWICE, begun, doubled, due_cutting_program, due_hop_program, due_ready_program, due_round, due_shifted_program, due_wrong,
    foreign_programs, named_anew, overwritten, padded, plain_program, tiny_programs,
)
from underthree.bests import cutting_of, is_best, mean_over
from underthree.uses import made_late, uses_of, waste_of


@lru_cache(maxsize=None)
def due_made(program, width, hop):
    """What the join rows of use make: for each (step, place) of use the stretch, up to the end of the late round."""
    last = 2 * width + due_round(program, hop) - 1
    contents, made, used = {}, {}, set()
    for step in range(1, last + width + 2):
        rows, told = program[1][(step - 1) % len(program[1])]
        contents[0] = ((step - 1,), frozenset())
        for place, (target, *sources) in enumerate(rows):
            parts = [contents.get(source) for source in sources]
            if None in parts:
                contents[target] = None
            elif len(parts) == 1:
                contents[target] = parts[0]
            else:
                word = parts[0][0] + parts[1][0]
                made[(step, place)] = (word[0], word[-1] + 1)
                contents[target] = (word[:3 * width], parts[0][1] | parts[1][1] | {(step, place)})
        if step >= width and (step - width) % hop == 0:
            used |= contents[told][1]
    return {at: made[at] for at in sorted(used) if at[0] <= last}


def late_steps(program, width, hop):
    return range(2 * width, 2 * width + due_round(program, hop))


def due_uses(program, width, hop):
    made = due_made(program, width, hop)
    return tuple(tuple(place for at, place in made if at == step) for step in late_steps(program, width, hop))


def due_waste(program, width, hop):
    made = due_made(program, width, hop)
    late = late_steps(program, width, hop)
    joins = sum(len([row for row in program[1][(step - 1) % len(program[1])][0] if len(row) == 3]) for step in late)
    useful = [at for at in made if at[0] in late]
    again = [at for at in useful if any(other < at and made[other] == made[at] for other in made)]
    return (joins - len(useful), len(again))


def due_made_late(program, width, hop):
    made = due_made(program, width, hop)
    return tuple(sorted({made[at] for at in made if at[0] in late_steps(program, width, hop)}))


def due_over(program, width, hop):
    phases = program[1]
    joins = sum(len(row) == 3 for rows, _ in phases for row in rows)
    q = width // hop
    least = width - 1 if q == 0 else hop + 2 + (width % hop != 0) - Fraction(6, q + 1)
    return Fraction(joins * hop, len(phases)) - least


def quotient(value):
    return (Fraction(value).numerator, Fraction(value).denominator)


def right_tiny():
    """Tiny programs that are right for ever, with the asks."""
    for at, program in enumerate(tiny_programs()):
        for width, hop in ((1, 1), (2, 1), (1, 2), (2, 2), (1, 3), (2, 3)):
            if due_wrong(program, width, hop) is None:
                yield program, width, hop


CASES = tuple(foreign_programs()) + tuple(right_tiny())[::3]
KEEPERS = tuple((due_cutting_program(cutting), cutting[0] - 1, cutting) for cutting in CUTTINGS)
KEEPERS += tuple((due_shifted_program(cutting), cutting[0] - 1, cutting) for cutting in CUTTINGS)
NOT_RIGHT = ((DUO, 2, 1), (LEAN, 2, 1), (LEAN, 4, 1), ((1, (((), None),)), 1, 1), (due_hop_program(3, 2, (2, ())), 3, 1), (begun(DUO, 1), 2, 2),
             ((5, LEAN[1][1:] * 2), 3, 1))


def check_not_right(case, function, more=None, bad=None):
    """A program that is not right for ever: told behind the three parameters, ahead of the further ones."""
    more, bad = more or {}, bad or {}
    for program, width, hop in NOT_RIGHT:
        good = dict({"program": program, "width": width, "hop": hop}, **more)
        check_unusable(case, "program", -1, function, *good.values())
        check_unusable(case, "program", -1, function, **good)
        check_unusable(case, "program", -1, function, *dict(good, **bad).values())
        check_unusable(case, "width", -1, function, *dict(good, width=0, hop=0, **bad).values())
        check_unusable(case, "hop", -1, function, *dict(good, hop=True, **bad).values())


def check_right_parameters(case, function, more=None, bad=None):
    """check_parameters for (program, width, hop, ..), and programs that are not right for ever."""
    more, bad = more or {}, bad or {}
    wrongs = dict({"program": helpers.NOT_PROGRAMS, "width": helpers.NOT_POSITIVE, "hop": helpers.NOT_POSITIVE}, **bad)
    check_parameters(case, function, dict({"program": LEAN, "width": 3, "hop": 1}, **more), wrongs)
    check_not_right(case, function, more, {name: bad[name][0] for name in bad})


class TestUses(unittest.TestCase):
    def test_examples(self):
        check_same(self, uses_of(LEAN, 3, 1), ((0,), (0, 1)))
        check_same(self, waste_of(TWICE, 3, 1), (0, 1))
        check_same(self, made_late(LEAN, 3, 1), ((3, 6), (4, 7), (5, 7)))

    def check(self, program, width, hop):
        check_same(self, uses_of(program=program, width=width, hop=hop), due_uses(program, width, hop))
        check_same(self, waste_of(program=program, width=width, hop=hop), due_waste(program, width, hop))
        check_same(self, made_late(program=program, width=width, hop=hop), due_made_late(program, width, hop))

    def test_foreign_programs(self):
        for program, width, hop in CASES:
            self.check(program, width, hop)

    def test_keepers(self):
        for program, width, _ in KEEPERS:
            self.check(program, width, 1)
            check_same(self, waste_of(program, width, 1), (0, 0))
        for cutting in CUTTINGS[:12]:
            self.check(due_ready_program(cutting), cutting[0], 1)
        for width, hop, cutting in ((5, 2, (3, ())), (7, 3, (3, ())), (6, 2, (4, ((1, 3),))), (9, 4, (3, ())), (4, 4, (2, ())), (3, 2, (2, ()))):
            self.check(due_hop_program(width, hop, cutting), width, hop)

    def test_each_phase_first(self):
        for cutting in (FAN5, HEX, (4, ((0, 2),))):
            for phase in range(cutting[0]):
                self.check(begun(due_cutting_program(cutting), phase), cutting[0] - 1, 1)
        for phase in range(2):
            self.check(begun(padded(TWICE), phase), 3, 1)

    def test_late_rounds_longer_than_the_program(self):
        for hop in (1, 2, 3, 5, 7):
            self.check(LEAN, 3, hop)
            self.check(plain_program(4), 4, hop)
            check_same(self, len(uses_of(LEAN, 3, hop)), due_round(LEAN, hop))
        # Asked at each second step alone, one of the two phases is of use only for the other one.
        check_same(self, uses_of(LEAN, 3, 2), ((), (0, 1)))
        check_same(self, waste_of(LEAN, 3, 2), (1, 0))

    def test_asks_far_apart(self):
        check_same(self, uses_of(plain_program(2), 2, 5), ((), (), (), (3,), ()))
        for width, hop in ((2, 5), (1, 4), (3, 8)):
            self.check(plain_program(width), width, hop)
            lots = uses_of(plain_program(width), width, hop)
            self.assertEqual(len([lot for lot in lots if lot]), 1 if width > 1 else 0)

    def test_large_rounds(self):
        self.check((5, (LEAN[1] * 60)), 3, 1)
        self.check((5, (LEAN[1] * 10)), 3, 19)
        check_same(self, len(uses_of((5, LEAN[1] * 10), 3, 19)), 380)
        program = due_cutting_program(SMALL[-1])
        self.check((program[0], program[1] * 17), SMALL[-1][0] - 1, 1)

    def test_waste(self):
        check_same(self, [waste_of(LEAN, 3, 1), waste_of(padded(LEAN), 3, 1), waste_of(doubled(TWICE), 3, 1)], [(0, 0), (4, 0), (0, 2)])
        check_same(self, waste_of(overwritten(LEAN), 3, 1), (2, 0))
        # What has nothing on a side is done, too, and of no use.
        check_same(self, waste_of((3, ((((1, 0), (2, 2, 0)), 1),)), 1, 1), (1, 0))
        # Nothing is made twice, but not by one cutting alone.
        check_same(self, (waste_of(plain_program(3), 3, 1), is_best(plain_program(3), 3)), ((0, 0), False))
        # One row of the two that make the same is of use, or both are.
        for rows in (((3, 2, 1), (4, 2, 1), (4, 4, 0), (2, 1), (1, 0)), ((3, 2, 1), (4, 2, 1), (3, 3, 0), (4, 4, 0), (2, 1), (1, 0))):
            self.check((5, ((rows, 4),)), 3, 1)
        check_same(self, waste_of((5, ((((3, 2, 1), (4, 2, 1), (4, 4, 0), (2, 1), (1, 0)), 4),)), 3, 1), (1, 0))
        both = (6, ((((3, 2, 1), (4, 2, 1), (3, 3, 0), (4, 4, 0), (2, 1), (1, 0)), 3), (((3, 2, 1), (5, 1, 0), (4, 2, 5), (2, 1), (1, 0)), 4)))
        self.check(both, 3, 1)

    def test_parameters(self):
        for function in (uses_of, waste_of, made_late):
            check_right_parameters(self, function)


class TestBests(unittest.TestCase):
    def test_examples(self):
        check_same(self, mean_over(TWICE, 3, 1), (1, 2))
        check_same(self, cutting_of(LEAN, 3), (4, ((1, 3),)))

    def test_mean_over(self):
        for program, width, hop in CASES:
            check_same(self, mean_over(program=program, width=width, hop=hop), quotient(due_over(program, width, hop)))
            self.assertGreaterEqual(due_over(program, width, hop), 0)
        check_right_parameters(self, mean_over)

    def test_best(self):
        for program, width, hop in CASES:
            for other in (width, width + 1):
                due = due_wrong(program, other, 1) is None and due_over(program, other, 1) == 0
                self.assertIs(is_best(program=program, width=other), due)
                if not due:
                    self.assertIsNone(cutting_of(program=program, width=other))
        for program, width, hop in NOT_RIGHT:
            self.assertIs(is_best(program, width), due_wrong(program, width, 1) is None and due_over(program, width, 1) == 0)
        self.assertIs(is_best(DUO, 2), False)
        self.assertIsNone(cutting_of(DUO, 2))
        self.assertIs(is_best(TWICE, 3), False)
        self.assertIsNone(cutting_of(TWICE, 3))
        self.assertIs(is_best(LEAN, 3), True)

    def test_cuttings_come_back(self):
        for program, width, cutting in KEEPERS:
            for other in (program, named_anew(program, 4), (program[0], program[1] * 2)):
                self.assertIs(is_best(other, width), True)
                check_same(self, cutting_of(other, width), cutting)
        for corners in range(2, 7):
            for cutting in all_cuttings(corners):
                check_same(self, cutting_of(due_cutting_program(cutting), corners - 1), cutting)
                check_same(self, cutting_of(due_shifted_program(cutting), corners - 1), cutting)
        check_same(self, cutting_of(padded(due_cutting_program(FAN5)), 4), None)
        check_same(self, cutting_of((2, ((((1, 0),), 1),)), 1), (2, ()))
        check_same(self, cutting_of((1, (((), 0),)), 1), (2, ()))

    def test_begun_elsewhere_the_cutting_is_turned(self):
        for cutting in (FAN5, HEX, (4, ((0, 2),)), SMALL[-3]):
            program = due_cutting_program(cutting)
            corners = cutting[0]
            for phase in range(corners):
                chords = tuple(sorted(tuple(sorted(((one - phase) % corners, (other - phase) % corners))) for one, other in cutting[1]))
                check_same(self, cutting_of(begun(program, phase), corners - 1), (corners, chords))

    def test_best_exactly_without_waste(self):
        """[81] and (G11)."""
        for program, width, hop in CASES + tuple((program, width, 1) for program, width, _ in KEEPERS):
            if hop != 1:
                continue
            corners = width + 1
            late = due_made_late(program, width, 1)
            pairs = {tuple(sorted((low % corners, high % corners))) for low, high in late if high - low < width}
            # The stretches of one cutting: those of the late round alone, where this is as long as the cutting.
            one = len(program[1]) % corners == 0 and any(pairs == set(cutting[1]) for cutting in all_cuttings(corners))
            if len(program[1]) % corners == 0:
                self.assertIs(is_best(program, width), waste_of(program, width, 1) == (0, 0) and one)
            if is_best(program, width):
                self.assertEqual(waste_of(program, width, 1), (0, 0))
                cutting = cutting_of(program, width)
                steps = late_steps(program, width, 1)
                due = {(low, high) for high in steps for low in range(high - width, high - 1) if are_joined(cutting, low % corners, high % corners)}
                self.assertEqual(set(late), due)
                self.assertLessEqual(corners // gcd(corners, len(program[1])), 3)

    def test_parameters(self):
        for function in (is_best, cutting_of):
            check_parameters(self, function, {"program": LEAN, "width": 3}, {"program": helpers.NOT_PROGRAMS, "width": helpers.NOT_POSITIVE})
            check_parameters(self, function, {"program": DUO, "width": 2}, {"program": helpers.NOT_PROGRAMS, "width": helpers.NOT_POSITIVE})
        check_same(self, [cutting_of(due_cutting_program(cutting), cutting[0] - 1) for cutting in FEW], list(FEW))


if __name__ == "__main__":
    unittest.main()
