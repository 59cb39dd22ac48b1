"""[73] verdicts, what [81] says of them, and of [11] the guarantee (G12)."""

import unittest
from itertools import product

from tests import helpers
from tests.helpers import check_paper, check_parameters, check_same
from tests.programs import (
    CUTTINGS, DUO, EDGES, LEAN, RANDOM, TWICE, doubled, due_cutting_program, due_hop_program, due_ready_program, due_round, due_shifted_program,
    due_wrong, foreign_programs, plain_program, tiny_programs, wild_program, words_told,
)
from underthree.programruns import run_program
from underthree.verdicts import lets_wrong, right_forever, round_of, told_spans, wrong_step, wrong_told

HUGE = 10 ** 30
ASKS = tuple(product((1, 2, 3, 4), (1, 2, 3, 5)))


def span_of(word):
    """What is told of a word under spans; None in the place of a very long one tells nought, too."""
    if word == ():
        return ()
    if word is None or word != tuple(range(word[0], word[0] + len(word))):
        return (None,)
    return ((word[0], word[-1] + 1),)


def with_told(program, at, told):
    """The program with something else told in one phase."""
    phases = list(program[1])
    phases[at] = (phases[at][0], told)
    return (program[0], tuple(phases))


class TestVerdicts(unittest.TestCase):
    def test_examples(self):
        check_same(self, round_of(DUO, 3), 6)
        check_same(self, told_spans(DUO, 4), ((), ((0, 2),), (), ((2, 4),)))
        check_same(self, told_spans((2, ((((1, 0, 0),), 1),)), 1), ((None,),))
        check_same(self, (wrong_step(DUO, 2, 1), wrong_told(DUO, 2, 1)), (3, ((), (1, 3))))
        self.assertIs(right_forever(DUO, 2, 2), True)
        check_paper(self, "right", -1, lets_wrong, DUO, 2, 1, 4)

    def test_rounds(self):
        for program in RANDOM + EDGES:
            for hop in (1, 2, 3, 4, 6, 12, 40):
                check_same(self, round_of(program=program, hop=hop), due_round(program, hop))

    def test_told_spans(self):
        for program in RANDOM + EDGES + (LEAN, TWICE, DUO, plain_program(3)):
            for many in (0, 1, 2, 5, 11):
                due = tuple(span_of(word) for word in words_told(program, many))
                check_same(self, told_spans(program=program, many=many), due)
        for program in (wild_program(0), LEAN):
            due = tuple(span_of(word) for word in words_told(program, 400))
            check_same(self, told_spans(program, 400), due)
            self.assertEqual(run_program(program, ("spans",), tuple((at, at + 1) for at in range(120))), due[:120])

    def check_verdict(self, program, width, hop, due):
        check_same(self, wrong_step(program=program, width=width, hop=hop), due)
        self.assertIs(right_forever(program=program, width=width, hop=hop), due is None)
        if due is None:
            self.assertIsNone(wrong_told(program=program, width=width, hop=hop))
            check_paper(self, "right", -1, lets_wrong, program, width, hop, width)
        else:
            stretch = (due - width, due)
            check_same(self, wrong_told(program=program, width=width, hop=hop), (span_of(words_told(program, due)[-1]), stretch))
            check_same(self, lets_wrong(program, width, hop, due), stretch)
            self.assertLess(due, width + due_round(program, hop))

    def test_all_tiny_programs(self):
        for at, program in enumerate(tiny_programs()):
            width, hop = ASKS[at % len(ASKS)]
            for width, hop in {(width, hop), (1, 1), (2, 2)}:
                self.check_verdict(program, width, hop, due_wrong(program, width, hop))

    def test_random_programs(self):
        for program in RANDOM + EDGES:
            for width, hop in ASKS[::2]:
                self.check_verdict(program, width, hop, due_wrong(program, width, hop))

    def test_keepers_and_others(self):
        for cutting in CUTTINGS:
            width = cutting[0] - 1
            for program, due in ((due_cutting_program(cutting), width), (due_shifted_program(cutting), width), (due_ready_program(cutting), width + 1)):
                self.check_verdict(program, due, 1, None)
                self.check_verdict(program, due, 3, None)
                self.check_verdict(program, due + 1, 1, due_wrong(program, due + 1, 1))
        for program, width, hop in foreign_programs():
            self.check_verdict(program, width, hop, None)
            self.check_verdict(program, width + 1, hop, due_wrong(program, width + 1, hop))

    def test_late_first_wrong_step(self):
        for program, width in ((LEAN, 3), (due_cutting_program((5, ((1, 4), (2, 4)))), 4), (plain_program(2), 2)):
            for times in (2, 3):
                longer = program
                for _ in range(times):
                    longer = doubled(longer)
                for at in range(len(longer[1])):
                    broken = with_told(longer, at, None if at % 2 else 1)
                    for hop in (1, 2, 3):
                        self.check_verdict(broken, width, hop, due_wrong(broken, width, hop))
        # The last asked step of a round is the first wrong one.
        longer = (4, tuple(due_hop_program(3, 2, (2, ()))[1] * 30))
        broken = with_told(longer, 0, None)
        check_same(self, (len(broken[1]), wrong_step(broken, 3, 2)), (120, 121))
        check_same(self, round_of(broken, 2), 120)
        broken = with_told((5, LEAN[1] * 60), 1, None)
        check_same(self, wrong_step(broken, 3, 1), 122)
        # With a hop that has no divisor with the phases the round is longer than both.
        broken = with_told((5, LEAN[1] * 10), 1, 3)
        self.check_verdict(broken, 3, 3, due_wrong(broken, 3, 3, 1))
        self.check_verdict(broken, 3, 19, due_wrong(broken, 3, 19, 1))
        check_same(self, wrong_step(broken, 3, 19), 22)
        check_same(self, wrong_step(with_told((5, LEAN[1] * 10), 3, 3), 3, 19), 3 + 19 * 19)

    def test_right_only_where_asked(self):
        for width, hop, cutting in ((3, 2, (2, ())), (5, 2, (3, ())), (7, 3, (3, ())), (4, 4, (2, ()))):
            program = due_hop_program(width, hop, cutting)
            self.check_verdict(program, width, hop, None)
            self.check_verdict(program, width, 2 * hop, None)
            self.check_verdict(program, width, 1, due_wrong(program, width, 1))
            self.assertIs(right_forever(program, width, 1), False)
        self.check_verdict(DUO, 2, 4, None)
        self.check_verdict(DUO, 1, 1, 1)
        # Told rightly where nothing is due yet, or not told at first.
        self.check_verdict((1, (((), 0),)), 1, 3, None)
        self.check_verdict((1, (((), None), ((), 0))), 1, 2, 1)

    def test_wrong_steps_of_any_size(self):
        for program, width, hop in ((DUO, 2, 1), (DUO, 2, 3), (LEAN, 2, 1), (with_told(doubled(LEAN), 3, 2), 3, 1), (TWICE, 4, 5), (EDGES[3], 1, 1)):
            phases = len(program[1])
            told = words_told(program, width + 3 * phases + 12)
            for step in range(width, width + 3 * phases):
                for far in (step, step + phases * HUGE, step + phases * 10 ** 60):
                    due = tuple(range(step - width, step))
                    if (far - width) % hop:
                        check_paper(self, "step", -1, lets_wrong, program, width, hop, far)
                    elif told[step - 1] == due:
                        check_paper(self, "right", -1, lets_wrong, program, width, hop, far)
                    else:
                        check_same(self, lets_wrong(program, width, hop, far), (far - width, far))

    def test_no_asked_steps(self):
        for thing in helpers.NOT_INTEGERS + (-1, 0, 1, 2, 4, 6, -HUGE, -5, 3.0):
            check_paper(self, "step", -1, lets_wrong, LEAN, 3, 2, thing)
        check_paper(self, "right", -1, lets_wrong, LEAN, 3, 2, 5)
        check_paper(self, "step", -1, lets_wrong, DUO, 1, 1, True)
        check_paper(self, "step", -1, lets_wrong, DUO, 2, 2, 3)
        check_paper(self, "step", -1, lets_wrong, (1, (((), None),)), 5, 1, 4)
        check_same(self, lets_wrong((1, (((), None),)), 5, 1, 5), (0, 5))

    def test_as_many_steps_later(self):
        """(G12), beside the words."""
        for program in RANDOM[::2] + (LEAN, TWICE, DUO):
            phases = len(program[1])
            told = words_told(program, 30)
            for width in (1, 2, 3):
                right = [told[step - 1] == tuple(range(step - width, step)) for step in range(width, 31)]
                self.assertEqual(right[phases:], right[:-phases])

    def test_parameters(self):
        check_parameters(self, round_of, {"program": LEAN, "hop": 1}, {"program": helpers.NOT_PROGRAMS, "hop": helpers.NOT_POSITIVE})
        check_parameters(self, told_spans, {"program": LEAN, "many": 0}, {"program": helpers.NOT_PROGRAMS, "many": helpers.NOT_NUMBERS})
        good = {"program": LEAN, "width": 1, "hop": 1}
        bad = {"program": helpers.NOT_PROGRAMS, "width": helpers.NOT_POSITIVE, "hop": helpers.NOT_POSITIVE}
        for function in (right_forever, wrong_step, wrong_told):
            check_parameters(self, function, good, bad)
        check_parameters(self, lets_wrong, dict(good, thing=1), dict(bad, thing=()))


if __name__ == "__main__":
    unittest.main()
