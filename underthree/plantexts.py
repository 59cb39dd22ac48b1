"""Plans as lines, there and back."""

from underthree.errors import InvalidText
from underthree.figures import end_at, number_in, part_at, unmarked
from underthree.needs import need
from underthree.plankinds import is_plan

NONE = "-"


def plan_line(plan):
    """The size, the joins and the answers of the plan."""
    need(is_plan(plan), "plan")
    size, joins, answers = plan
    middle = ", ".join([f"{one} {other}" for one, other in joins]) if len(joins) > 0 else NONE
    end = " ".join([str(answer) for answer in answers]) if len(answers) > 0 else NONE
    return f"{size}; {middle}; {end}"


def read_plan(text):
    """The plan whose line is the text."""
    need(isinstance(text, str), "text")
    parts = text.split(" ")
    figures, mark = unmarked(parts[0], ";")
    size = number_in(figures)
    if size is None or size == 0 or mark == "":
        raise InvalidText(0, 0)
    joins = _joins_in(parts, size)
    answers_at = 1 + max(1, 2 * len(joins))
    return (size, joins, _answers_in(parts, answers_at, size + len(joins)))


def _joins_in(parts, size):
    if part_at(parts, 1) == NONE + ";":
        return ()
    joins = []
    at = 1
    mark = ","
    while mark == ",":
        bound = size + len(joins)
        one = _name_in(part_at(parts, at), at, bound)
        figures, mark = unmarked(part_at(parts, at + 1), ",;")
        other = _name_in(figures, at + 1, bound)
        if mark == "":
            raise InvalidText(0, at + 1)
        joins.append((one, other))
        at += 2
    return tuple(joins)


def _answers_in(parts, first, bound):
    if part_at(parts, first) == NONE:
        end_at(parts, first + 1)
        return ()
    return tuple([_name_in(part, first + at, bound) for at, part in enumerate(parts[first:])])


def _name_in(figures, at, bound):
    name = number_in(figures)
    if name is None or name >= bound:
        raise InvalidText(0, at)
    return name
