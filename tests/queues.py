"""Queue's rows, short and long, and what the document tells of them by other ways than the program's."""

import random
from functools import lru_cache
from itertools import combinations

from tests.helpers import FORK, PAIR, small_rows
from tests.test_stands import due_gain, due_struck


def in_order(row):
    """Whether of any two asks the one that begins later never ends earlier."""
    return not any(one[0] < other[0] and other[1] < one[1] for one in row for other in row)


def crossing(row):
    """The first two asks that no queue has."""
    return min((one, other) for one in row for other in row if one[0] < other[0] and other[1] < one[1])


def long_rows(seed, many):
    """Rows of up to sixty asks with ends up to 120, dense ones and thin ones."""
    source = random.Random(seed)
    rows = []
    for at in range(many):
        top = source.choice((20, 60, 120))
        asks = source.choice((5, 20, 60))
        reach = source.choice((1, 4, 15, top))
        begins = sorted(source.randrange(top) for _ in range(asks))
        ends = sorted(min(top, begin + source.randint(1, reach)) for begin in begins)
        rows.append(tuple(sorted({(low, high) for low, high in zip(begins, ends) if low < high})))
    return rows


SMALL = [row for row in small_rows(5, 4) if in_order(row)]
EDGES = (
    (), ((0, 1),), ((7, 8),), ((0, 1), (1, 2), (2, 3)), ((0, 2),), ((117, 120),), ((0, 120),), PAIR, FORK,
    ((0, 1), (1, 4), (2, 4)), ((0, 1), (0, 2), (0, 3), (0, 4)), ((0, 4), (1, 4), (2, 4), (3, 4)),
    ((0, 3), (5, 8), (60, 64), (117, 120)), ((50, 53), (51, 54), (52, 56)), ((0, 2), (2, 4), (4, 6)),
    ((0, 3), (0, 5), (1, 5), (3, 5), (3, 7), (6, 7), (6, 9)), ((0, 4), (4, 5), (5, 9), (6, 10)),
    tuple((at, at + 61) for at in range(60)), tuple((at, 2 * at + 2) for at in range(59)),
    tuple((0, at) for at in range(61, 121)), tuple((at, 120) for at in range(60)), tuple((2 * at, 2 * at + 2) for at in range(60)),
)
LONG = long_rows(7, 12)


def due_step(stand):
    """What the walk of [7] strikes in a stand of a queue's row, and the rule; None without asks."""
    left, asks = stand
    if not asks:
        return None
    begins = [low for low, _ in asks]
    free = [place for place in left if any(low < place < high for low, high in asks)
            and not any(place in ask for ask in asks)]
    if free:
        return (1, ("element", min(free)))
    forks = [place for place in begins if begins.count(place) > 1]
    if forks:
        begin = max(forks)
        low, high = sorted(end for start, end in asks if start == begin)[-2:]
        if not any(low < place < high for place in left):
            return (2, ("ask", begin, high))
        return (2, ("element", max(place for place in left if place < high)))
    end = min(high for _, high in asks)
    firsts = [ask for ask in asks if ask[1] == end]
    if len(firsts) > 1:
        return (3, ("ask",) + min(firsts))
    return (3, ("element", max(place for place in left if place < end)))


def due_stand(row):
    return (tuple(range(max([high for _, high in row], default=0) + 1)), tuple(ask for ask in row if ask[1] - ask[0] > 1))


def due_walk(stand):
    """The list of (stand, rule, strike, gain) to the end."""
    steps = []
    while True:
        step = due_step(stand)
        if step is None:
            return steps
        steps.append((stand, *step, due_gain(stand, step[1])))
        stand = due_struck(stand, step[1])


def due_least(stand):
    return sum(gain for _, _, _, gain in due_walk(stand))


def fewest_cuts(row):
    """The fewest stretches that make all wide asks, of all ways to part them."""
    best = [sum(high - low - 1 for low, high in row)]

    def try_all(wanted, many):
        if many + len(wanted) >= best[0]:
            return
        if not wanted:
            best[0] = many
            return
        longest = max(wanted, key=lambda stretch: (stretch[1] - stretch[0], stretch))
        low, high = longest
        for cut in range(low + 1, high):
            parts = {part for part in ((low, cut), (cut, high)) if part[1] - part[0] > 1}
            try_all((wanted - {longest}) | parts, many + 1)

    try_all(frozenset(ask for ask in row if ask[1] - ask[0] > 1), 0)
    return best[0]


def fewest_lots(row):
    """The fewest unions, of any lots, that come to all wide asks: what "same" needs at least."""
    size = max([high for _, high in row], default=0)
    wanted = frozenset(sum(1 << at for at in range(low, high)) for low, high in row if high - low > 1)
    singles = frozenset(1 << at for at in range(size))

    @lru_cache(maxsize=None)
    def reaches(made, many):
        if wanted <= made:
            return True
        if many < len(wanted - made):
            return False
        unions = {one | other for one, other in combinations(sorted(made | singles), 2)} - made - singles
        return any(reaches(made | {lot}, many - 1) for lot in unions)

    many = 0
    while not reaches(frozenset(), many):
        many += 1
    return many
