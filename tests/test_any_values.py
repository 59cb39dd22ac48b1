"""[12] any values as parameters: a function returns, or raises an error of the package; nothing is changed."""

import importlib
import unittest
from itertools import product

from tests.helpers import FAN5, FORK, HEX, LAP, PAIR, PLAN3
from tests.programs import DUO, LEAN
from tests.test_interface import FUNCTIONS
from underthree.askclasses import Asks
from underthree.cutclasses import Cuts
from underthree.cuttingclasses import Cutting
from underthree.errors import AskError, CuttingError, LiveError, PaperError, TextError, UnderError
from underthree.house import House
from underthree.judgeclasses import Judge
from underthree.planclasses import Plan
from underthree.programclasses import Program
from underthree.runners import Runner
from underthree.steadystores import Steady
from underthree.strikeclasses import Strikes

DEEP = ()
for _ in range(29):
    DEEP = (DEEP,)

POOL = (
    None, True, False, 0, 1, 2, -1, 60, "", "-", "all", "sum 3", "0-1", "a\nb", (), (0,), (0, 1), (1, 2, 3), [], [0],
    [(0, 1)], ([],), ((), ()), (([], 1),), ("sum", 3), ("sum", [3]), (["sum"], 3), ("spans",), ("ask",), ("ask", 0, 3),
    ("element", 1), ("element", []), (("put", 2), ("ask",)), (("put", [2]),), PAIR, FORK, ((0, 4), (1, 2)), ((0, [1]),),
    PLAN3, LAP, (2, ((0, [1]),), ()), ((0, 1, 3), ((0, 3),)), ((0, 1), (0, 1, 2), (1, 2)), (0, ("sum", 9), (1, 1, 1)),
    ((("ask", 0, 3), 1),), ((("element", 2), [1]),), ((1, 2, 3), (0, 1, 3), (1, 3, 4)), ((0, 1, [2]),), ("0:1:2",), FAN5, HEX, (2, ()), (6, ((0, [2]),)),
    LEAN, DUO, (2, (([], 0),)), (2, ((([1, 0],), 0),)), (2, ((((1, [0]),), 0),)), (2, (((), [0]),)), "2; -: -", "3; -",
    "a", "crash\nask a", ("free", 2), ("steady", HEX), ("told", PAIR), ("steady", [3]), (["free"], 2), (0, 0, None, ()), (0, None, None, ()), ("crash",),
    ("put", "a", [1]), ("put", ["a"], 1), (("open", "a", ("free", 2)), ("put", "a", 1)), (("put", "a", []),), (("a", ("free", 2), (0, 0, None, ())),),
    (1, 2, 2, 1, 3), (1, 2, [2]), DEEP, [DEEP], ("x" * 4000,), tuple(range(100)), list(range(600)),
)
TOLD = repr(POOL)
SMALL = POOL[::3] + (PAIR, PLAN3, ("sum", 3), ((1, 2, 3), (0, 1, 3), (1, 3, 4)), HEX, LEAN)


class TestAnyValues(unittest.TestCase):
    def try_call(self, function, values):
        try:
            function(*values)
        except UnderError as error:
            self.assertIsInstance(error, (AskError, CuttingError, LiveError, PaperError, TextError))

    def tearDown(self):
        self.assertEqual(repr(POOL), TOLD)

    def test_functions(self):
        for name, lines in FUNCTIONS.items():
            module = importlib.import_module(f"underthree.{name}")
            for line in lines:
                function = getattr(module, line.split("(")[0])
                many = line.count(",") + 1
                pool = {1: POOL, 2: POOL, 3: SMALL, 4: SMALL[::3]}[many]
                for values in product(pool, repeat=many):
                    self.try_call(function, values)

    def test_classes(self):
        asks, plan = Asks(*PAIR), Plan(*PLAN3)
        for value in POOL:
            for function in (Asks, asks.both, asks.mirror, asks.__eq__, plan.grade, plan.beside, plan.__eq__):
                self.try_call(function, (value,))
        for values in product(SMALL, repeat=2):
            self.try_call(plan.on, values)
        for values in product(SMALL, repeat=3):
            self.try_call(Plan, values)
        self.assertEqual((asks.told(), plan.told()), (PAIR, PLAN3))

    def test_strikes_and_runners(self):
        strikes, live = Strikes(PAIR), Runner(((1, 2, 3), (0, 1, 3), (1, 3, 4)), PAIR, ("spans",))
        for value in POOL:
            for function in (Strikes, strikes.fall, strikes.over, strikes.__eq__, live.put):
                self.try_call(function, (value,))
        for values in product(SMALL, repeat=3):
            self.try_call(Runner, values)
        self.assertEqual(strikes.told(), PAIR)

    def test_cuttings_and_programs(self):
        cutting, program, store = Cutting(6, *HEX[1]), Program(LEAN[0], *LEAN[1]), Steady(HEX, ("spans",))
        for value in POOL:
            for function in (Cutting, cutting.turn, cutting.first, cutting.__eq__, Program, program.mean, program.rows, program.begun, program.__eq__, store.put):
                self.try_call(function, (value,))
        for values in product(POOL, repeat=2):
            for function in (Cutting, Program, Steady, program.run):
                self.try_call(function, values)
        self.assertEqual((cutting.told(), program.told()), (HEX, LEAN))

    def house(self):
        house = House(("spans",))
        house.do_all((("open", "a", ("free", 2)), ("open", "t", ("told", PAIR)), ("put", "a", None)))
        return house

    def test_judges_and_houses(self):
        judge, house = Judge(DUO, 2, 1), self.house()
        asks = (house.keeper_of, house.state_of, house.held_by, house.joins_by, house.asked_by, house.least_by,
                house.over_by, house.bounds_by, house.barred, house.tried, house.__eq__)
        for value in POOL:
            for function in asks + (judge.plan, judge.__eq__, House):
                self.try_call(function, (value,))
        for values in product(SMALL, repeat=3):
            self.try_call(Judge, values)
        self.assertEqual((judge.told(), house), ((DUO, 2, 1), self.house()))

    def test_events_of_houses(self):
        for value in POOL:
            for word in ("go", "drop", "ask", "close", "undo", "do_all"):
                self.check_event(word, (value,))
        for values in product(SMALL, repeat=2):
            for word in ("do_all", "open_key", "put", "set_width"):
                self.check_event(word, values)

    def check_event(self, word, values):
        house = self.house()
        function = getattr(house, word)
        try:
            function(*values)
        except UnderError as error:
            self.assertIsInstance(error, (AskError, LiveError))
            # What is refused changes nothing.
            self.assertEqual(house, self.house())

    def test_cuts(self):
        cuts = Cuts(PAIR)
        for value in POOL:
            for function in (Cuts, cuts.held, cuts.bracket, cuts.runner, cuts.__eq__):
                self.try_call(function, (value,))
        self.assertEqual(cuts.told(), ((1, 2, 3), (0, 1, 3), (1, 3, 4)))


if __name__ == "__main__":
    unittest.main()
