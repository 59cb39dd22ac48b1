"""[68] means and first answers, and of [11] the guarantee (G10)."""

import unittest
from fractions import Fraction

from tests import helpers
from tests.helpers import check_parameters, check_same
from tests.programs import DUO, EDGES, LEAN, RANDOM, TWICE, due_round
from tests.queues import fewest_cuts
from underthree.leasts import least_of
from underthree.means import blocks_of, first_least, hop_first, least_mean, program_mean, ready_first, ready_mean
from underthree.steadies import steady_asks

HUGE = 10 ** 30


def quotient(value):
    value = Fraction(value)
    return (value.numerator, value.denominator)


def least_by_words(width, hop, many):
    """(G10), with the least of (q, 1) by (G9)."""
    if many == 0:
        return 0
    q, rest = divmod(width, hop)
    if q == 0:
        return many * (width - 1)
    first = 0
    if q > 1:
        m, r = divmod(many - 1, q + 1)
        e = 0 if r == 0 else q - 2 if r == q else r - 1
        first = many + (q - 2) * (1 + 2 * m) + e
    if rest == 0:
        return (many + q - 1) * (hop - 1) + first
    t = 2 * (many - q) if many >= q else many - q
    return (many - 1) * (hop - 2) + width - 1 + first + t


class TestMeans(unittest.TestCase):
    def test_examples(self):
        check_same(self, (least_mean(5, 2), first_least(5, 2, 2), hop_first(5, 2, 2), ready_first(3, 4)), ((3, 1), 6, 7, 8))

    def test_blocks(self):
        for width in range(1, 41):
            for hop in range(1, 45):
                q, rest = blocks_of(width=width, hop=hop)
                self.assertTrue(q * hop + rest == width and 0 <= rest < hop)
                check_same(self, blocks_of(width, hop), (q, rest))
        check_same(self, [blocks_of(3, 2), blocks_of(2, 3), blocks_of(1, 1)], [(1, 1), (0, 2), (1, 0)])

    def test_program_mean(self):
        for program in RANDOM + EDGES + (LEAN, TWICE, DUO):
            for hop in (1, 2, 3, 4, 5, 40):
                steps = due_round(program, hop)
                rows = sum(len([row for row in program[1][at % len(program[1])][0] if len(row) == 3]) for at in range(steps))
                check_same(self, program_mean(program=program, hop=hop), quotient(Fraction(rows, steps // hop)))
        check_same(self, [program_mean(LEAN, 1), program_mean(LEAN, 2), program_mean(TWICE, 1)], [(3, 2), (3, 1), (2, 1)])
        check_same(self, program_mean((1, (((), 0),)), 3), (0, 1))

    def test_least_mean(self):
        for width in range(1, 41):
            for hop in range(1, 45):
                q = width // hop
                due = width - 1 if q == 0 else hop + 2 + (width % hop != 0) - Fraction(6, q + 1)
                check_same(self, least_mean(width=width, hop=hop), quotient(due))
        check_same(self, [least_mean(1, 1), least_mean(2, 1), least_mean(40, 1), least_mean(1, 7), least_mean(7, 7)],
                   [(0, 1), (1, 1), (117, 41), (0, 1), (6, 1)])

    def test_first_least_by_the_walk(self):
        for width in range(1, 13):
            for hop in range(1, 15):
                for many in range(0, 15):
                    due = least_of(steady_asks(width, hop, many))
                    check_same(self, first_least(width=width, hop=hop, many=many), due)
                    self.assertEqual(least_by_words(width, hop, many), due)
        for width, hop, many in ((40, 7, 12), (39, 2, 41), (40, 39, 3), (37, 3, 28), (40, 1, 60), (20, 10, 11)):
            check_same(self, first_least(width, hop, many), least_of(steady_asks(width, hop, many)))
        for width, hop, many in ((3, 2, 3), (4, 3, 2), (5, 2, 2), (3, 1, 4), (5, 3, 2), (4, 2, 3)):
            check_same(self, first_least(width, hop, many), fewest_cuts(steady_asks(width, hop, many)))

    def test_very_many(self):
        for width, hop in ((1, 1), (2, 1), (5, 1), (40, 1), (5, 2), (7, 3), (8, 2), (3, 9), (9, 9), (1, 2), (40, 13), (11, 5)):
            for many in (HUGE, HUGE - 1, HUGE - 7, 10 ** 15):
                check_same(self, first_least(width, hop, many), least_by_words(width, hop, many))
        check_same(self, first_least(4, 1, HUGE), 18 * 10 ** 29)
        check_same(self, first_least(3, 5, HUGE), 2 * HUGE)

    def test_hop_first(self):
        for width in range(1, 13):
            for hop in range(1, width + 1):
                for many in list(range(0, 15)) + [HUGE]:
                    due = least_by_words(width, hop, many)
                    if width % hop and many:
                        due += min(many, width // hop) - 1
                    check_same(self, hop_first(width=width, hop=hop, many=many), due)

    def test_ready(self):
        for width in range(2, 41):
            check_same(self, ready_mean(width=width), quotient(4 - Fraction(6, width)))
            for many in (0, 1, 2, 3, 10, HUGE, HUGE - 1):
                check_same(self, ready_first(width=width, many=many), many + least_by_words(width - 1, 1, many))
        check_same(self, [ready_mean(2), ready_mean(3), ready_mean(4), ready_first(2, 5)], [(1, 1), (2, 1), (5, 2), 5])

    def test_nothing(self):
        for width in range(2, 9):
            check_same(self, ready_first(width, 0), 0)
            for hop in range(1, 12):
                check_same(self, first_least(width, hop, 0), 0)
                if hop <= width:
                    check_same(self, hop_first(width, hop, 0), 0)

    def test_parameters(self):
        not_width, not_many = helpers.NOT_POSITIVE, helpers.NOT_NUMBERS
        for function in (blocks_of, least_mean):
            check_parameters(self, function, {"width": 2, "hop": 3}, {"width": not_width, "hop": not_width})
        check_parameters(self, program_mean, {"program": LEAN, "hop": 3}, {"program": helpers.NOT_PROGRAMS, "hop": not_width})
        check_parameters(self, first_least, {"width": 2, "hop": 3, "many": 0}, {"width": not_width, "hop": not_width, "many": not_many})
        check_parameters(self, hop_first, {"width": 3, "hop": 3, "many": 0},
                         {"width": not_width, "hop": not_width + (4, 5, HUGE), "many": not_many})
        check_parameters(self, ready_mean, {"width": 2}, {"width": not_width + (1,)})
        check_parameters(self, ready_first, {"width": 2, "many": 0}, {"width": not_width + (1,), "many": not_many})


if __name__ == "__main__":
    unittest.main()
