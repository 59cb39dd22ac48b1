"""How much a program does more than the best ones, and the cutting of a best one."""

from underthree.cuttingkinds import cutting_with
from underthree.means import least_mean, program_mean
from underthree.quotients import minus
from underthree.uses import rows_of_use
from underthree.verdicts import need_right, right_forever


def mean_over(program, width, hop):
    """The mean of the program, less the least mean."""
    need_right(program, width, hop)
    return minus(program_mean(program, hop), least_mean(width, hop))


def is_best(program, width):
    """Whether the program is right for ever for (width, 1) and has the least mean."""
    return right_forever(program, width, 1) and program_mean(program, 1) == least_mean(width, 1)


def cutting_of(program, width):
    """The cutting whose stretches a best program makes; None for other programs."""
    if not is_best(program, width):
        return None
    corners = width + 1
    # A cutting's stretches come again behind as many steps as it has corners, however short the late round is.
    rows = rows_of_use(program, width, 1, 2 * width, 2 * width + corners)
    ends = [(low % corners, high % corners) for step, place, (low, high) in rows if high - low < width]
    return cutting_with(corners, sorted(set([(min(pair), max(pair)) for pair in ends])))
