"""The numbers of cuttings."""

from underthree.catalans import catalan
from underthree.cuttingkinds import cutting_with, is_corners, is_cutting
from underthree.kinds import is_number
from underthree.needs import need
from underthree.neighbours import neighbour_lots


def cutting_count(corners):
    """How many cuttings of so many corners there are."""
    need(is_corners(corners), "corners")
    return catalan(corners - 2)


def cutting_at(corners, number):
    """The cutting of so many corners with this number."""
    need(is_corners(corners), "corners")
    need(is_number(number) and number < cutting_count(corners), "number")
    pairs = []
    open_parts = [(0, corners - 1, number)]
    while len(open_parts) > 0:
        begin, end, rest = open_parts.pop()
        if end - begin >= 2:
            third, rest = _third_by(begin, end, rest)
            highs = cutting_count(end - third + 1)
            open_parts.append((begin, third, rest // highs))
            open_parts.append((third, end, rest % highs))
            pairs.extend([pair for pair in ((begin, third), (third, end)) if pair[1] - pair[0] >= 2])
    return cutting_with(corners, pairs)


def number_of(cutting):
    """The number of the cutting."""
    need(is_cutting(cutting), "cutting")
    lots = neighbour_lots(cutting)
    total = 0
    # A part adds its number as often as the parts behind it, in the sequence of the numbers, have cuttings.
    open_parts = [(0, cutting[0] - 1, 1)]
    while len(open_parts) > 0:
        begin, end, times = open_parts.pop()
        if end - begin >= 2:
            third = _third_in(lots, begin, end)
            total += times * sum([_ways_with(begin, end, earlier) for earlier in range(begin + 1, third)])
            open_parts.append((begin, third, times * cutting_count(end - third + 1)))
            open_parts.append((third, end, times))
    return total


def _third_in(lots, begin, end):
    """The corner between the two, neighbours in the cutting, that makes a triangle with them."""
    thirds = [corner for corner in lots[begin] if begin < corner < end and corner in lots[end]]
    return thirds[0]


def _ways_with(begin, end, third):
    """How many cuttings of the corners from begin to end have the triangle of these three."""
    return cutting_count(third - begin + 1) * cutting_count(end - third + 1)


def _third_by(begin, end, number):
    """The third corner that the number tells, and the number less those of the earlier ones."""
    third = begin + 1
    while number >= _ways_with(begin, end, third):
        number -= _ways_with(begin, end, third)
        third += 1
    return (third, number)
