"""Small plans, and what they come to by other ways than the program's."""

from itertools import combinations, product

from tests.helpers import LAP, PLAN3

WASTE = (4, ((0, 1), (4, 2), (1, 2), (6, 3), (1, 1)), (5, 7))
EDGES = (
    (1, (), ()), (1, (), (0,)), (1, ((0, 0),), (1,)), (1, ((0, 0), (1, 1)), (2, 0, 2)), (3, (), (2, 1)),
    (2, ((0, 1), (0, 1), (1, 0)), (2, 3, 4)), PLAN3, LAP, WASTE,
    (3, ((0, 1), (3, 2), (1, 2), (0, 5)), (6, 5)), (3, ((2, 1), (0, 3), (3, 3)), (4, 5)),
    (5, ((3, 4), (2, 5), (1, 6), (0, 7), (2, 5), (8, 0)), (8, 6, 9)),
)


def joins_of(size, many):
    """All tuples of so many joins."""
    rows = [()]
    for at in range(many):
        rows = [row + (pair,) for row in rows for pair in product(range(size + at), repeat=2)]
    return rows


def small_plans():
    """All plans of at most three elements, with few joins, and one answer or two."""
    plans = list(EDGES)
    for size, most in ((1, 2), (2, 2), (3, 2)):
        for many in range(most + 1):
            for joins in joins_of(size, many):
                plans.append((size, joins, (size + many - 1,)))
                plans.append((size, joins, (size - 1, size + many - 1)))
    return plans


def words_of(plan):
    """The elements of each name, in sequence and as often as they are in it."""
    size, joins, _ = plan
    words = [(at,) for at in range(size)]
    for one, other in joins:
        words.append(words[one] + words[other])
    return words


def span_of_word(word):
    stretch = (word[0], word[-1] + 1)
    return stretch if word == tuple(range(*stretch)) else None


def is_right(plan, asks, grade):
    """Whether the plan suits the asks and is right for the grade, by the words of its answers."""
    if len(plan[2]) != len(asks) or any(high > plan[0] for _, high in asks):
        return False
    return first_wrong(plan, asks, grade) is None


def first_wrong(plan, asks, grade):
    words = words_of(plan)
    for at, (answer, ask) in enumerate(zip(plan[2], asks)):
        word = words[answer]
        if grade == "commuting":
            word = tuple(sorted(word))
        if grade == "same":
            word = tuple(sorted(set(word)))
        if word != tuple(range(*ask)):
            return at
    return None


def left_to_right(size, asks):
    """A plan, right for "all", that makes each ask element by element."""
    joins, answers = [], []
    for low, high in asks:
        name = low
        for element in range(low + 1, high):
            joins.append((name, element))
            name = size + len(joins) - 1
        answers.append(name)
    return (size, tuple(joins), tuple(answers))


def right_to_left(size, asks):
    """A plan, right for "commuting", that makes each ask from its end on, sides changed."""
    joins, answers = [], []
    for low, high in asks:
        name = high - 1
        for element in reversed(range(low, high - 1)):
            joins.append((name, element))
            name = size + len(joins) - 1
        answers.append(name)
    return (size, tuple(joins), tuple(answers))


def overlapping(size, asks):
    """A plan, right for "same", that makes each ask of pairs of neighbours."""
    joins = [(at, at + 1) for at in range(size - 1)]
    answers = []
    for low, high in asks:
        name = low if high == low + 1 else size + low
        for pair in range(low + 1, high - 1):
            joins.append((name, size + pair))
            name = size + len(joins) - 1
        answers.append(name)
    return (size, tuple(joins), tuple(answers))


def all_lots(size):
    """All lots of two or more of so many elements, ascending."""
    return sorted(lot for many in range(2, size + 1) for lot in combinations(range(size), many))
