"""A plan as an object."""

from underthree.errors import NotUsable
from underthree.grades import grade_of
from underthree.needs import need
from underthree.planchanges import beside_plan, tidied
from underthree.plankinds import plan_fault
from underthree.planruns import run_plan

# The parameter in which each fault of a plan lies.
PARAMETERS = {"size": "size", "joins": "joins", "join": "joins", "answers": "answers", "answer": "answers"}


class Plan:
    """The plan of a size, its joins and its answers."""

    def __init__(self, size, joins, answers):
        fault = plan_fault((size, joins, answers))
        if fault is not None:
            raise NotUsable(PARAMETERS[fault[0]], -1)
        self._plan = (size, joins, answers)

    def told(self):
        """The plan, as a triple."""
        return self._plan

    def grade(self, asks):
        """The first word for which the plan is right for the asks, None if there is none."""
        return grade_of(self._plan, asks)

    def on(self, operation, feed):
        """The values of the answers."""
        return run_plan(self._plan, operation, feed)

    def tidy(self):
        """A Plan of the tidied plan."""
        size, joins, answers = tidied(self._plan)
        return Plan(size, joins, answers)

    def beside(self, other):
        """A Plan of this one and the other one beside it."""
        need(isinstance(other, Plan), "other")
        size, joins, answers = beside_plan(self._plan, other.told())
        return Plan(size, joins, answers)

    def many(self):
        """How many joins there are."""
        return len(self._plan[1])

    def __eq__(self, other):
        return isinstance(other, Plan) and self._plan == other._plan
