"""What cuttings cost, and the cheapest ones."""

from underthree.cornerprices import prices_of
from underthree.cuttingkinds import cutting_with, is_cutting
from underthree.kinds import is_number
from underthree.needs import need


def cutting_cost(cutting, costs):
    """The sum of each corner's price times its cost."""
    need(is_cutting(cutting), "cutting")
    need(_are_costs(costs) and len(costs) == cutting[0], "costs")
    return sum([price * cost for price, cost in zip(prices_of(cutting), costs)])


def least_cost(costs):
    """The least cost of all cuttings of so many corners as there are costs."""
    need(_are_costs(costs) and len(costs) >= 2, "costs")
    sums, thirds = _tables(costs)
    return sums[(0, len(costs) - 1)]


def cheapest_cutting(costs):
    """A cutting that has the least cost."""
    need(_are_costs(costs) and len(costs) >= 2, "costs")
    sums, thirds = _tables(costs)
    last = len(costs) - 1
    pairs = []
    open_parts = [(0, last)]
    while len(open_parts) > 0:
        begin, end = open_parts.pop()
        if end - begin >= 2:
            third = thirds[(begin, end)]
            open_parts.extend([(begin, third), (third, end)])
            if (begin, end) != (0, last):
                pairs.append((begin, end))
    return cutting_with(len(costs), pairs)


def _are_costs(thing):
    return isinstance(thing, tuple) and all([is_number(cost) for cost in thing])


def _tables(costs):
    """For each two corners the least cost of the part between them, and the third corner that has it."""
    many = len(costs)
    sums = {(at, at + 1): 0 for at in range(many - 1)}
    thirds = {}
    for size in range(2, many):
        for begin in range(many - size):
            end = begin + size
            ways = [(sums[(begin, at)] + sums[(at, end)] + costs[at], at) for at in range(begin + 1, end)]
            least, thirds[(begin, end)] = min(ways)
            sums[(begin, end)] = least + costs[begin] + costs[end]
    return (sums, thirds)
