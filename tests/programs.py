"""Programs, and what the document tells of them by other ways than the program's."""

import random
from functools import lru_cache
from itertools import product
from math import lcm

from tests.cuttings import LONG as LONG_CUTTINGS
from tests.cuttings import SMALL as SMALL_CUTTINGS
from tests.cuttings import are_joined, due_turned
from tests.helpers import FAN5, HEX

LEAN = (5, ((((3, 1, 0), (4, 2, 3), (2, 1), (1, 0)), 4), (((4, 3, 0), (2, 1), (1, 0)), 4)))
TWICE = (5, ((((3, 1, 0), (4, 2, 3), (2, 1), (1, 0)), 4), (((3, 2, 1), (4, 3, 0), (2, 1), (1, 0)), 4)))
DUO = (3, ((((1, 0),), None), (((2, 1, 0),), 2)))
# A word that has more elements than this is that of no ask.
LONGEST = 150


def words_told(program, many):
    """For each step the elements of what is told, in sequence; () for nothing, None for very many."""
    _, phases = program
    words, told = {}, []
    for step in range(1, many + 1):
        rows, source = phases[(step - 1) % len(phases)]
        words[0] = (step - 1,)
        for target, *sources in rows:
            parts = [words.get(place, ()) for place in sources]
            if () in parts:
                words[target] = ()
            elif None in parts or len(sum(parts, ())) > LONGEST:
                words[target] = None
            else:
                words[target] = sum(parts, ())
        told.append(() if source is None else words.get(source, ()))
    return told


def due_round(program, hop):
    return lcm(len(program[1]), hop)


def due_wrong(program, width, hop, rounds=2):
    """The first asked step, of those of some rounds, that does not tell the last elements; None without one."""
    last = width + rounds * due_round(program, hop)
    told = words_told(program, last)
    for step in range(width, last + 1, hop):
        if told[step - 1] != tuple(range(step - width, step)):
            return step
    return None


def fold_word(operation, feed, word, join):
    """What the elements of a word come to."""
    value = feed[word[0]]
    for element in word[1:]:
        value = join(operation, value, feed[element])
    return value


def kept(corners, place):
    return 1 + place % corners


def due_chain(cutting, step):
    """The pairs (u, t) of the chain of the step, by the words of [66]."""
    corners = cutting[0]
    pairs, ahead = [], step - 1
    for begin in range(step - 2, step - corners, -1):
        if are_joined(cutting, begin % corners, step % corners):
            pairs.append((begin, ahead))
            ahead = begin
    return pairs


@lru_cache(maxsize=None)
def due_cutting_program(cutting):
    corners = cutting[0]
    phases = []
    for step in range(1, corners + 1):
        rows = ((kept(corners, step - 1), 0),)
        rows += tuple((kept(corners, u), kept(corners, u), kept(corners, t)) for u, t in due_chain(cutting, step))
        phases.append((rows, kept(corners, step + 1)))
    return (corners + 1, tuple(phases))


@lru_cache(maxsize=None)
def due_shifted_program(cutting):
    corners = cutting[0]
    turn = min(by for by in range(1, corners + 1) if due_turned(cutting, by) == cutting)
    phases = []
    for step in range(1, turn + 1):
        rows = tuple((i + 1, i) for i in reversed(range(1, corners - 1))) + ((1, 0),)
        rows += tuple((step - u, step - u, step - t) for u, t in due_chain(cutting, step))
        phases.append((rows, corners - 1))
    return (corners, tuple(phases))


@lru_cache(maxsize=None)
def due_ready_program(cutting):
    corners = cutting[0]
    phases = []
    for (rows, _), step in zip(due_cutting_program(cutting)[1], range(1, corners + 1)):
        phases.append((((corners + 1, kept(corners, step), 0),) + rows, corners + 1))
    return (corners + 2, tuple(phases))


@lru_cache(maxsize=None)
def due_hop_program(width, hop, cutting):
    q, rest = divmod(width, hop)
    corners = q + 1
    phases = []
    for j, i in product(range(q + 1), range(hop)):
        own = kept(corners, j)
        rows, told = [], None
        rows.append((own, 0) if i == 0 else (own, own, 0))
        if i == rest - 1:
            rows.append((q + 2, kept(corners, j + 1), own))
            told = q + 2
        if i == hop - 1:
            rows.extend((kept(corners, u), kept(corners, u), kept(corners, t)) for u, t in due_chain(cutting, j + 1))
            if rest == 0:
                told = kept(corners, j + 2)
        phases.append((tuple(rows), told))
    return (q + 2 if rest == 0 else q + 3, tuple(phases))


def plain_program(width):
    """A program of one phase that joins the last elements anew in each step."""
    rows = [(age + 1, age) for age in reversed(range(width))]
    sources = list(reversed(range(1, width + 1)))
    answer = width + 1
    rows.append((answer, sources[0]))
    rows.extend((answer, answer, source) for source in sources[1:])
    return (width + 2, ((tuple(rows), answer),))


def doubled(program):
    """The program with its phases told twice."""
    return (program[0], program[1] * 2)


def named_anew(program, seed):
    """The program with its registers, all but the first one, in another sequence, and one more that has nothing."""
    registers, phases = program
    names = list(range(1, registers + 1))
    random.Random(seed).shuffle(names)
    names = [0] + names
    renamed = tuple((tuple(tuple(names[place] for place in row) for row in rows), None if told is None else names[told])
                    for rows, told in phases)
    return (registers + 1, renamed)


def padded(program):
    """The program with rows that are of no use: a copy of itself, a copy of a copy, joins of what nobody reads, of nothing."""
    registers, phases = program
    more = ((registers, 0), (registers, registers), (registers + 1, registers), (registers + 1, 0, registers + 1),
            (registers + 2, 0, registers + 3))
    return (registers + 4, tuple((rows[:1] + more + rows[1:], told) for rows, told in phases))


def overwritten(program):
    """The program in which each phase joins first into the target of its first row, which is lost then."""
    registers, phases = program
    return (registers, tuple((((rows[0][0], 0, 0),) + rows if rows and rows[0][0] not in rows[0][1:] else rows, told)
                             for rows, told in phases))


def begun(program, phase):
    return (program[0], program[1][phase:] + program[1][:phase])


def random_program(seed, registers=4, phases=3, rows=4):
    source = random.Random(seed)
    made = []
    for _ in range(source.randint(1, phases)):
        some = []
        for _ in range(source.randint(0, rows)):
            some.append((source.randint(1, registers - 1),) + tuple(source.randrange(registers) for _ in range(source.choice((1, 2, 2)))))
        made.append((tuple(some), source.choice([None] + list(range(registers)))))
    return (registers, tuple(made))


def wild_program(seed):
    """As many registers, phases and rows as the limits let; many rows copy, so that values stay short."""
    source = random.Random(seed)
    phases = []
    for _ in range(120):
        rows = [(source.randint(1, 79), source.choice((0, source.randrange(80)))) for _ in range(60)]
        for at in source.sample(range(60), 25):
            rows[at] = (rows[at][0], source.randrange(80), source.randrange(80))
        phases.append((tuple(rows), source.choice((None, source.randrange(80), source.randrange(80)))))
    return (80, tuple(phases))


def tiny_programs():
    """All programs of two registers and one phase or two, with few rows."""
    rows = [(1, 0), (1, 1)] + [(1, left, right) for left in range(2) for right in range(2)]
    few = [()] + [(row,) for row in rows]
    many = few + [pair for pair in product(rows, repeat=2)]
    for some, told in product(many, (None, 0, 1)):
        yield (2, ((some, told),))
    for one, two in product(product(few, (None, 0, 1)), repeat=2):
        yield (2, (one, two))


CUTTINGS = SMALL_CUTTINGS[:10] + SMALL_CUTTINGS[10:-1:4] + (FAN5, HEX)
RANDOM = tuple(random_program(seed) for seed in range(60))
EDGES = (
    (1, (((), None),)), (1, (((), 0),)), (3, (((), 2),)), (2, (((), None), ((), 0))), (2, ((((1, 1),), 1),)), (2, ((((1, 1), (1, 0)), 1),)),
    (2, ((((1, 0),), None), (((1, 1, 0),), 1))), (4, ((((1, 0), (2, 1), (3, 2)), 3),)), (3, ((((2, 1), (1, 0)), 2),)),
    (2, ((((1, 1, 0),), 1),)), (2, ((((1, 0, 0),), 1),)), (3, ((((1, 0), (1, 2)), 1),)), (3, ((((2, 0, 1), (1, 0)), 2),)),
    (3, ((((2, 2, 1), (2, 1, 1), (1, 0)), 2),)), LEAN, TWICE, DUO,
)


def foreign_programs():
    """Programs that nobody's keeper made, each with the width and the hops for which it is right for ever."""
    for width in (1, 2, 3, 5):
        for hop in (1, 2, 3, 7):
            yield plain_program(width), width, hop
    for program, width, hop in ((LEAN, 3, 1), (LEAN, 3, 2), (LEAN, 3, 5), (TWICE, 3, 1), (TWICE, 3, 3), (DUO, 2, 2), (DUO, 2, 4)):
        yield program, width, hop
        yield doubled(program), width, hop
        yield named_anew(program, 5), width, hop
        yield padded(program), width, hop
        yield overwritten(program), width, hop
    for cutting in ((2, ()), (3, ()), (4, ((0, 2),)), FAN5, HEX):
        width = cutting[0] - 1
        for hop in (1, 2, 3):
            yield padded(due_cutting_program(cutting)), width, hop
            yield begun(doubled(due_shifted_program(cutting)), 1), width, hop
            yield named_anew(due_ready_program(cutting), 9), width + 1, hop
    for width, hop, cutting in ((5, 2, (3, ())), (4, 2, (3, ())), (3, 3, (2, ())), (7, 4, (2, ())), (8, 3, (3, ())), (9, 2, FAN5)):
        yield due_hop_program(width, hop, cutting), width, hop
        yield padded(named_anew(due_hop_program(width, hop, cutting), 3)), width, 2 * hop
LONG = LONG_CUTTINGS
