"""Plans that are made of other ones."""

from underthree.needs import need
from underthree.plankinds import is_plan
from underthree.planvalues import spans_of


def used_joins(plan):
    """The lot of the places of the joins that an answer needs."""
    need(is_plan(plan), "plan")
    size, joins, answers = plan
    needed = {name: True for name in answers}
    # A join names earlier ones alone, so from the last one on all that names it is known.
    for at in reversed(range(len(joins))):
        if size + at in needed:
            one, other = joins[at]
            needed[one] = True
            needed[other] = True
    return tuple([at for at in range(len(joins)) if size + at in needed])


def trimmed(plan):
    """The plan with the joins alone that an answer needs."""
    need(is_plan(plan), "plan")
    size, joins, _ = plan
    names = {}
    for at, place in enumerate(used_joins(plan)):
        names[size + place] = size + at
    kept = [joins[place] for place in used_joins(plan)]
    return _renamed(plan, kept, names)


def tidied(plan):
    """The plan without joins that make a stretch anew, trimmed."""
    need(is_plan(plan), "plan")
    size, joins, _ = plan
    made = {}
    names = {}
    kept = []
    for at, span in enumerate(spans_of(plan)[size:]):
        if span is not None and span in made:
            names[size + at] = made[span]
            continue
        names[size + at] = size + len(kept)
        made[span] = size + len(kept)
        kept.append(joins[at])
    return trimmed(_renamed(plan, kept, names))


def mirrored_plan(plan):
    """The plan as it is seen from the other end of the elements."""
    need(is_plan(plan), "plan")
    size, joins, answers = plan
    turned = tuple([(_mirrored_name(size, other), _mirrored_name(size, one)) for one, other in joins])
    return (size, turned, tuple([_mirrored_name(size, name) for name in reversed(answers)]))


def beside_plan(plan, other):
    """The plan of both, the elements of the other one behind those of the first one."""
    need(is_plan(plan), "plan")
    need(is_plan(other), "other")
    size = plan[0] + other[0]
    # The elements of the other one come between the elements and the joins of the first one.
    first = _shifted(plan, 0, other[0])
    second = _shifted(other, plan[0], plan[0] + len(plan[1]))
    return (size, first[0] + second[0], first[1] + second[1])


def _renamed(plan, kept, names):
    size, _, answers = plan
    joins = [(names.get(one, one), names.get(other, other)) for one, other in kept]
    return (size, tuple(joins), tuple([names.get(name, name) for name in answers]))


def _mirrored_name(size, name):
    return size - 1 - name if name < size else name


def _shifted(plan, element_by, join_by):
    size, joins, answers = plan
    moved_joins = [
        (_shifted_name(size, one, element_by, join_by), _shifted_name(size, other, element_by, join_by))
        for one, other in joins
    ]
    moved_answers = [_shifted_name(size, name, element_by, join_by) for name in answers]
    return (tuple(moved_joins), tuple(moved_answers))


def _shifted_name(size, name, element_by, join_by):
    return name + element_by if name < size else name + join_by
