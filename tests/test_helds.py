"""[77] what is held, [78] delays, and what [81] and (G11) say of them."""

import unittest
from fractions import Fraction

from tests import helpers
from tests.cuttings import SMALL
from tests.helpers import FAN5, HEX, check_parameters, check_same, check_unusable
from tests.programs import (
    DUO, EDGES, LEAN, RANDOM, TWICE, begun, doubled, due_cutting_program, due_hop_program, due_ready_program, due_round, named_anew, padded, plain_program,
)
from tests.test_keepers import hop_cases
from tests.test_uses import CASES, KEEPERS, NOT_RIGHT, check_right_parameters, due_over, late_steps
from underthree.delays import delays_of, rows_row, worst_delay, worst_rows
from underthree.helds import alive_behind, held_need, held_row

READY = tuple((due_ready_program(cutting), cutting[0], 1) for cutting in SMALL[:20])
HOPS = tuple((due_hop_program(width, hop, cutting), width, hop) for width, hop, cutting in list(hop_cases())[::5])
ALL = CASES[::2] + tuple((program, width, 1) for program, width, _ in KEEPERS[::2]) + READY + HOPS


def due_alive(program, width, hop, step):
    """
    The registers on whose content behind the step hangs what is told at a later asked step: each content is followed
    on, step by step, as the lot of the registers from which it comes.
    """
    phases = program[1]
    contents = {place: {place} for place in range(program[0])}
    alive = set()
    for later in range(step + 1, step + 2 * width + 1):
        rows, told = phases[(later - 1) % len(phases)]
        contents[0] = set()
        for target, *sources in rows:
            contents[target] = set().union(*[contents[source] for source in sources])
        # A step far behind hangs on contents that do not come from here, as elements go.
        if (later - width) % hop == 0 and later < step + width:
            alive |= contents[told]
    return tuple(sorted(alive))


def due_need(width, hop, step):
    return len([j for j in range(step + 1) if j * hop < step < j * hop + width])


def due_delays(program, width, hop):
    delays = []
    for step in late_steps(program, width, hop):
        if (step - width) % hop:
            continue
        rows, told = program[1][(step - 1) % len(program[1])]
        contents = {place: set() for place in range(program[0])}
        for place, (target, *sources) in enumerate(rows):
            own = {place} if len(sources) == 2 else set()
            contents[target] = own.union(*[contents[source] for source in sources])
        last = max(contents[told], default=-1)
        delays.append(len([row for row in rows[:last + 1] if len(row) == 3]))
    return tuple(delays)


class TestHelds(unittest.TestCase):
    def test_examples(self):
        check_same(self, alive_behind(LEAN, 3, 1, 5), (1, 3))
        check_same(self, held_row(TWICE, 3, 1), (2, 2))
        check_same(self, held_need(3, 2, 1), 1)

    def test_alive(self):
        for program, width, hop in ALL:
            for step in list(range(width, width + min(12, due_round(program, hop)) + 1)) + [200, 201, 400]:
                check_same(self, alive_behind(program=program, width=width, hop=hop, step=step), due_alive(program, width, hop, step))

    def test_held_row(self):
        for program, width, hop in ALL:
            due = tuple(len(due_alive(program, width, hop, step)) for step in late_steps(program, width, hop))
            check_same(self, held_row(program=program, width=width, hop=hop), due)

    def test_alive_again(self):
        """[81]: alike L steps later."""
        for program, width, hop in ALL[::2]:
            steps = due_round(program, hop)
            for step in (width, width + 1, width + 5):
                self.assertEqual(alive_behind(program, width, hop, step), alive_behind(program, width, hop, step + steps))

    def test_small_ones(self):
        check_same(self, alive_behind((1, (((), 0),)), 1, 1, 1), ())
        check_same(self, alive_behind((2, ((((1, 0),), 1),)), 1, 3, 7), ())
        check_same(self, alive_behind(DUO, 2, 2, 3), (1,))
        check_same(self, alive_behind(DUO, 2, 2, 2), ())
        check_same(self, held_row(DUO, 2, 2), (0, 1))
        # Copies are read, too, but what is read by rows of no use is not alive; nor is what gives way to a new element.
        check_same(self, alive_behind(plain_program(3), 3, 1, 9), (1, 2))
        check_same(self, alive_behind(padded(plain_program(3)), 3, 1, 9), (1, 2))
        check_same(self, alive_behind(plain_program(3), 3, 5, 9), ())
        check_same(self, alive_behind(plain_program(3), 3, 5, 11), (1,))
        check_same(self, alive_behind(plain_program(3), 3, 5, 12), (1, 2))
        # The first register is told in the step of its element; behind a step nobody reads it.
        check_same(self, [alive_behind((2, ((((1, 0),), 0), ((), 0))), 1, hop, 4) for hop in (1, 2, 3)], [(), (), ()])
        check_same(self, alive_behind((3, ((((1, 0),), None), (((2, 1), (1, 2, 0)), 1))), 2, 2, 5), (1,))

    def test_a_register_that_is_read_and_filled_in_one_row(self):
        program = (3, ((((1, 0),), None), (((2, 1, 0), (1, 2)), None), (((1, 1, 0),), 1)))
        for step in range(3, 12):
            check_same(self, alive_behind(program, 3, 3, step), due_alive(program, 3, 3, step))
        check_same(self, [alive_behind(program, 3, 3, step) for step in (3, 4, 5)], [(), (1,), (1,)])

    def test_held_need(self):
        for width in range(1, 9):
            for hop in range(1, 12):
                for step in range(0, 40):
                    check_same(self, held_need(width=width, hop=hop, step=step), due_need(width, hop, step))
        check_same(self, [held_need(40, 1, 400), held_need(40, 7, 400), held_need(1, 1, 5), held_need(2, 9, 10), held_need(5, 5, 5), held_need(5, 1, 0)],
                   [39, due_need(40, 7, 400), 0, 1, 0, 0])

    def test_no_fewer_than_needed(self):
        """[81] and (G11)."""
        for program, width, hop in ALL:
            row = held_row(program, width, hop)
            for step, many in zip(late_steps(program, width, hop), row):
                self.assertGreaterEqual(many, held_need(width, hop, step))
            if hop == 1:
                self.assertGreaterEqual(min(row), width - 1)
        for program, width, cutting in KEEPERS:
            if program == due_cutting_program(cutting):
                self.assertEqual(set(held_row(program, width, 1)), {width - 1})
        for program, width, hop in HOPS:
            self.assertEqual(held_row(program, width, hop), tuple(held_need(width, hop, step) for step in late_steps(program, width, hop)))

    def test_parameters(self):
        check_right_parameters(self, alive_behind, {"step": 3}, {"step": helpers.NOT_NUMBERS + (0, 1, 2)})
        check_right_parameters(self, held_row)
        check_parameters(self, held_need, {"width": 3, "hop": 1, "step": 0},
                         {"width": helpers.NOT_POSITIVE, "hop": helpers.NOT_POSITIVE, "step": helpers.NOT_NUMBERS})
        for program, width, hop in NOT_RIGHT:
            check_unusable(self, "program", -1, alive_behind, program, width, hop, width - 1)


class TestDelays(unittest.TestCase):
    def test_examples(self):
        check_same(self, delays_of(LEAN, 3, 1), (1, 2))
        check_same(self, rows_row(LEAN), (2, 1))

    def test_delays(self):
        for program, width, hop in ALL:
            due = due_delays(program, width, hop)
            check_same(self, delays_of(program=program, width=width, hop=hop), due)
            check_same(self, worst_delay(program=program, width=width, hop=hop), max(due))
            self.assertEqual(len(due), due_round(program, hop) // hop)

    def test_small_ones(self):
        check_same(self, (delays_of((1, (((), 0),)), 1, 1), worst_delay((1, (((), 0),)), 1, 1)), ((0,), 0))
        # A join of no use ahead of the last one counts, one behind it does not.
        check_same(self, delays_of((4, ((((3, 0, 0), (2, 1, 0), (1, 0)), 2),)), 2, 1), (2,))
        check_same(self, delays_of((4, ((((2, 1, 0), (3, 0, 0), (1, 0)), 2),)), 2, 1), (1,))
        # Through copies, and through a copy of what was joined a step ahead.
        check_same(self, delays_of((5, ((((3, 1, 0), (4, 0, 0), (2, 3), (1, 0)), 2),)), 2, 1), (1,))
        ahead = (4, ((((1, 0),), None), (((2, 1, 0), (3, 2)), 3), (((1, 0),), None), (((2, 1, 0), (3, 2)), 3)))
        check_same(self, delays_of(ahead, 2, 2), (1, 1))
        early = (4, ((((1, 0),), None), (((2, 1, 0), (3, 2), (1, 0)), 3)))
        check_same(self, delays_of(early, 2, 2), (1,))
        early = (3, ((((1, 0), (2, 0)), 2),))
        check_same(self, delays_of(early, 1, 1), (0,))
        check_same(self, [delays_of(doubled(LEAN), 3, 1), delays_of(begun(LEAN, 1), 3, 1), delays_of(LEAN, 3, 3)], [(1, 2, 1, 2), (2, 1), (1, 2)])
        check_same(self, delays_of(named_anew(TWICE, 2), 3, 1), (2, 2))

    def test_rows(self):
        for program in RANDOM + EDGES:
            due = tuple(len([row for row in rows if len(row) == 3]) for rows, _ in program[1])
            check_same(self, rows_row(program=program), due)
            check_same(self, worst_rows(program=program), max(due))
        for function in (rows_row, worst_rows):
            check_parameters(self, function, {"program": DUO}, {"program": helpers.NOT_PROGRAMS})

    def test_consequences(self):
        """[81] and (G11)."""
        for program, width, hop in ALL + tuple((program, width, 1) for program, width, _ in KEEPERS):
            if hop != 1:
                continue
            over = due_over(program, width, 1)
            mean = over + 3 - Fraction(6, width + 1)
            if width >= 2 and worst_delay(program, width, 1) <= 1:
                self.assertGreaterEqual(mean, 4 - Fraction(6, width))
            if width >= 5:
                self.assertGreaterEqual(worst_rows(program), 3)
        for program, width, hop in READY:
            check_same(self, worst_delay(program, width, 1), 1)
        for cutting in (HEX, (6, ((1, 3), (1, 5), (3, 5)))):
            check_same(self, worst_rows(due_cutting_program(cutting)), 3)
        check_same(self, worst_rows(due_cutting_program(FAN5)), 3)

    def test_parameters(self):
        for function in (delays_of, worst_delay):
            check_right_parameters(self, function)


if __name__ == "__main__":
    unittest.main()
