"""The joins of a plan that no family counts."""

from underthree.askrows import wide_asks
from underthree.families import lies_in
from underthree.kinds import is_asks
from underthree.needs import need
from underthree.plankinds import is_plan
from underthree.planvalues import lots_of


def repeats_of(plan):
    """The lot of the places of the joins whose lot is of one element or that of an earlier join."""
    need(is_plan(plan), "plan")
    made = {}
    places = []
    for at, lot in enumerate(lots_of(plan)[plan[0]:]):
        if len(lot) == 1 or lot in made:
            places.append(at)
        made[lot] = True
    return tuple(places)


def strays_of(plan, asks):
    """The lot of the places of the other joins whose lot lies within no wide ask."""
    need(is_plan(plan), "plan")
    need(is_asks(asks), "asks")
    wide = wide_asks(asks)
    repeats = repeats_of(plan)
    lots = lots_of(plan)[plan[0]:]
    return tuple([at for at, lot in enumerate(lots) if at not in repeats and not lies_in(lot, wide)])
