"""doublecut.live, [60], and [4]."""

import inspect
import operator
import random
import unittest

from doublecut.costs import least_steps
from doublecut.histories import lays_along
from doublecut.least import is_least
from doublecut.live import Live, under
from doublecut.steps import all_steps, lay_behind
from doublecut.terms import step_of

from tests.helpers import ODD_VALUES, WRONG_LAYS, model_kept_lays, some_lay, some_pairs, strict, tells
from tests.test_terms import deeds_by_words

DRAW = random.Random(60)
LAY = (3, ((1, 2), (3, 4)))
JOIN, CUT = ((), ((0, 5),)), (((0, 5),), ())


def state(live):
    return strict((live.first, live.lay, live.history, len(live)))


def full(many=60):
    """A Live with so many deeds done."""
    live = Live(LAY)
    for number in range(many):
        live.go(CUT if number % 2 else JOIN)
    return live


class Stop(Exception):
    pass


class Deeds(unittest.TestCase):
    def test_at_first(self):
        for lay in (LAY, (1, ()), some_lay(12, 9, 1)):
            live = Live(lay)
            self.assertEqual(state(live), strict((lay, lay, (), 0)))
            self.assertEqual(state(Live(lay=lay)), state(live))

    def test_led_by_each_deed(self):
        for _ in range(30):
            lay = DRAW.choice(model_kept_lays(DRAW.randint(1, 3)))
            live = Live(lay)
            history, here = [], lay
            for _ in range(DRAW.randint(1, 12)):
                deed, behind = DRAW.choice(deeds_by_words(here))
                step = step_of(here, deed)
                word, *ends = deed
                way = DRAW.randrange(3)
                if way == 0:
                    self.assertEqual(strict(live.go(step)), strict(behind))
                elif word == "cross":
                    made = live.cross(*ends) if way == 1 else live.cross(other=ends[1], one=ends[0])
                    self.assertEqual(strict(made), strict(step))
                else:
                    made = live.cut(*ends) if way == 1 else live.cut(one=ends[0])
                    self.assertEqual(strict(made), strict(step))
                history.append(step)
                here = behind
                self.assertEqual(state(live), strict((lay, here, tuple(history), len(history))))
            self.assertEqual(lays_along(lay, live.history)[-1], live.lay)

    def test_each_step(self):
        for step in all_steps(LAY):
            live = Live(LAY)
            self.assertEqual(live.go(step=step), lay_behind(LAY, step))
            self.assertEqual(live.history, (step,))

    def test_undo(self):
        live = Live(LAY)
        states = [state(live)]
        for _ in range(10):
            live.go(DRAW.choice(all_steps(live.lay)))
            states.append(state(live))
        self.assertIsNone(live.undo())
        self.assertEqual(state(live), states[9])
        self.assertIsNone(live.undo(3))
        self.assertEqual(state(live), states[6])
        live.undo(many=1)
        self.assertEqual(state(live), states[5])
        self.assertEqual(tells(live.undo, 6), ("BadNumber", {"value": 6}))
        self.assertEqual(state(live), states[5])
        live.undo(5)
        self.assertEqual(state(live), states[0])
        for told in ((), (1,), (0,), (2,)):
            value = told[0] if told else 1
            self.assertEqual(tells(live.undo, *told), ("BadNumber", {"value": value}))
        self.assertEqual(state(live), states[0])

    def test_undo_of_wrong_numbers(self):
        live = full(2)
        before = state(live)
        for value in ODD_VALUES + [3, -1, "1", (1,)]:
            if strict(value) not in ("1", "2"):
                self.assertEqual(strict(tells(live.undo, value)), strict(("BadNumber", {"value": value})))
                self.assertEqual(state(live), before)

    def test_copies_go_on_by_themselves(self):
        live = full(3)
        other = live.copy()
        self.assertIsNot(other, live)
        self.assertIsInstance(other, Live)
        self.assertEqual(state(other), state(live))
        other.undo(2)
        other.cut(1)
        self.assertEqual((len(live), len(other)), (3, 2))
        self.assertEqual(live.history, (JOIN, CUT, JOIN))
        live.undo(3)
        self.assertEqual(other.history, (JOIN, (((1, 2),), ())))
        other.undo(2)
        self.assertEqual(state(other), state(live))

    def test_properties_are_not_assigned(self):
        live = Live(LAY)
        for name in ("lay", "first", "history"):
            self.assertIsInstance(inspect.getattr_static(Live, name), property)
            with self.assertRaises(AttributeError):
                setattr(live, name, None)


class Leading(unittest.TestCase):
    PAIRS = some_pairs(2, 20, 1) + some_pairs(3, 40, 2) + some_pairs(7, 20, 3) + some_pairs(12, 20, 4)

    def test_along_least_histories(self):
        for one, other in self.PAIRS:
            live = Live(one)
            away = least_steps(one, other)
            self.assertEqual(strict(live.away(other)), strict(away))
            self.assertEqual(strict(live.lead(goal=other)), strict(away))
            self.assertEqual((live.lay, live.first, len(live)), (other, one, away))
            self.assertIs(is_least(one, other, live.history), True)
            self.assertEqual(live.away(goal=other), 0)
            self.assertEqual(live.lead(other), 0)
            for left in range(1, away + 1):
                live.undo()
                self.assertEqual(live.away(other), left)
            self.assertEqual(live.lay, one)

    def test_goals(self):
        live = full(2)
        before = state(live)
        for call in (live.lead, live.away):
            for wrong, place in WRONG_LAYS:
                self.assertEqual(tells(call, wrong), ("BadLay", {"place": place}))
            for goal in ((2, ()), (4, ()), (12, ((0, 1),))):
                self.assertEqual(tells(call, goal), ("Unlike", {}))
        self.assertEqual(state(live), before)


class Refused(unittest.TestCase):
    def test_lays(self):
        for wrong, place in WRONG_LAYS:
            self.assertEqual(tells(Live, wrong), ("BadLay", {"place": place}))

    def test_ends_then_deeds(self):
        live = Live(LAY)
        live.go(JOIN)
        before = state(live)
        for value in ODD_VALUES + [6, -1]:
            if strict(value) in ("0", "1", "2"):
                continue
            wanted = strict(("BadEnd", {"value": value}))
            self.assertEqual(strict(tells(live.cut, value)), wanted)
            self.assertEqual(strict(tells(live.cross, value, None)), wanted)
            self.assertEqual(strict(tells(live.cross, value, value)), wanted)
            self.assertEqual(strict(tells(live.cross, 1, value)), wanted)
        for one, other in ((0, 0), (1, 2), (2, 1), (5, 5), (5, 0)):
            wanted = ("BadStep", {"value": ("cross", one, other)})
            self.assertEqual(strict(tells(live.cross, one, other)), strict(wanted))
        self.assertEqual(state(live), before)
        live.cut(5)
        for one in (0, 5):
            self.assertEqual(strict(tells(live.cut, one)), strict(("BadStep", {"value": ("cut", one)})))

    def test_steps(self):
        live = Live(LAY)
        for value in ODD_VALUES + [CUT, list(JOIN), ((), ()), ((), ((1, 2),)), ((), [(0, 5)]), ((), ((5, 0),))]:
            self.assertEqual(strict(tells(live.go, value)), strict(("BadStep", {"value": value})))
        self.assertEqual(state(live), state(Live(LAY)))

    def test_sixty_deeds_and_one_more(self):
        live = full()
        before = state(live)
        self.assertEqual(len(live), 60)
        wanted = ("TooGreat", {"most": 60})
        for call, told in ((live.cut, (1,)), (live.cross, (0, 2)), (live.go, (JOIN,)), (live.lead, ((3, ()),))):
            self.assertEqual(tells(call, *told), wanted)
        # too great comes behind all other exceptions
        self.assertEqual(tells(live.cut, 6), ("BadEnd", {"value": 6}))
        self.assertEqual(tells(live.cut, 0), ("BadStep", {"value": ("cut", 0)}))
        self.assertEqual(tells(live.cross, 0, 9), ("BadEnd", {"value": 9}))
        self.assertEqual(tells(live.cross, 1, 2), ("BadStep", {"value": ("cross", 1, 2)}))
        self.assertEqual(tells(live.go, CUT), ("BadStep", {"value": CUT}))
        self.assertEqual(tells(live.lead, None), ("BadLay", {"place": ()}))
        self.assertEqual(tells(live.lead, (2, ())), ("Unlike", {}))
        self.assertEqual(live.lead(LAY), 0)
        self.assertEqual(live.away((3, ())), 2)
        self.assertEqual(state(live), before)
        live.undo()
        live.go(CUT)
        self.assertEqual(len(live), 60)

    def test_leading_that_would_pass_sixty(self):
        goal = (3, ((0, 1), (2, 3), (4, 5)))
        for many in (56, 58):
            live = full(many)
            before = state(live)
            away = live.away(goal)
            self.assertEqual(away, 3)
            if many + away <= 60:
                self.assertEqual(live.lead(goal), 3)
                self.assertEqual(len(live), 59)
            else:
                self.assertEqual(tells(live.lead, goal), ("TooGreat", {"most": 60}))
                self.assertEqual(state(live), before)
        live = full(58)
        self.assertEqual(live.lead((3, ())), 2)
        self.assertEqual(len(live), 60)


class Trials(unittest.TestCase):
    def test_a_block(self):
        live = full(3)
        before = state(live)
        with live.trial() as held:
            self.assertIs(held, live)
            self.assertEqual(state(live), before)
            held.undo(2)
            held.cut(1)
            held.lead((3, ((0, 1),)))
            self.assertNotEqual(state(live), before)
        self.assertEqual(state(live), before)

    def test_one_manager_for_several_blocks(self):
        live = full(2)
        manager = live.trial()
        # it is as it was when the block began, not when the manager was made
        live.go(JOIN)
        for _ in range(3):
            before = state(live)
            with manager as held:
                self.assertEqual(state(held), before)
                held.undo(len(held))
            self.assertEqual(state(live), before)
            live.undo()

    def test_within_one_another(self):
        live = full(2)
        for one, other in ((live.trial(), live.trial()), (live.trial(),) * 2):
            before = state(live)
            with one:
                live.go(JOIN)
                inner = state(live)
                with other:
                    live.undo(3)
                    self.assertEqual(len(live), 0)
                self.assertEqual(state(live), inner)
            self.assertEqual(state(live), before)

    def test_an_exception_goes_on(self):
        live = full(3)
        before = state(live)
        manager = live.trial()
        for _ in range(2):
            with self.assertRaises(Stop):
                with manager:
                    live.undo(2)
                    raise Stop()
            self.assertEqual(state(live), before)
        found = tells(under, live.trial(), lambda held: held.undo(9))
        self.assertEqual(found, ("BadNumber", {"value": 9}))
        self.assertEqual(state(live), before)

    def test_a_copy_in_a_block_stays(self):
        live = full(1)
        with live.trial():
            live.go(CUT)
            other = live.copy()
        self.assertEqual((len(live), len(other)), (1, 2))

    def test_under(self):
        live = full(2)
        before = state(live)

        def deed(one):
            self.assertIs(one, live)
            one.cut(1)
            return "told", one.lay

        self.assertEqual(under(live.trial(), deed), ("told", (3, ((3, 4),))))
        self.assertEqual(state(live), before)
        self.assertEqual(under(manager=live.trial(), deed=len), 2)
        self.assertIsNone(under(live.trial(), lambda one: one.undo()))
        self.assertEqual(state(live), before)
        manager = live.trial()
        self.assertEqual([under(manager, lambda one: one.lead((3, ()))) for _ in range(3)], [2, 2, 2])

    def test_under_calls_within_the_block(self):
        told = []

        class Manager:
            def __enter__(self):
                told.append("in")
                return 7

            def __exit__(self, kind, value, trace):
                told.append("out")

        self.assertEqual(under(Manager(), lambda one: told.append(one) or one + 1), 8)
        self.assertEqual(told, ["in", 7, "out"])


class Operators(unittest.TestCase):
    def test_equal_lives(self):
        one, other = full(2), full(2)
        self.assertIs(one == other, True)
        self.assertIs(one != other, False)
        other.undo()
        self.assertIs(one == other, False)
        self.assertIs(one != other, True)
        other.go(CUT)
        self.assertIs(one == other, True)
        # the same lay now, but another history, or another first lay
        self.assertEqual(full(2).lay, Live(LAY).lay)
        self.assertIs(full(2) == Live(LAY), False)
        first = Live((3, ((0, 5), (1, 2), (3, 4))))
        first.go(CUT)
        self.assertEqual(first.lay, LAY)
        self.assertIs(first == Live(LAY), False)
        self.assertIs(Live((1, ())) == Live((2, ())), False)
        self.assertIs(one == one.copy(), True)
        turned = Live(LAY)
        turned.go((((1, 2),), ()))
        turned.go((((3, 4),), ()))
        other = Live(LAY)
        other.go((((3, 4),), ()))
        other.go((((1, 2),), ()))
        self.assertEqual(turned.lay, other.lay)
        self.assertIs(turned == other, False)

    def test_other_kinds(self):
        live = Live(LAY)
        for value in ODD_VALUES + [LAY, (LAY, ()), object(), Live]:
            self.assertIs(live == value, False)
            self.assertIs(live != value, True)
            self.assertIs(value == live, False)
            self.assertIs(value != live, True)

    def test_no_other_operators(self):
        live = Live(LAY)
        signs = [operator.lt, operator.le, operator.gt, operator.ge, operator.add, operator.sub, operator.mul,
                 operator.floordiv, operator.mod, operator.and_, operator.or_, operator.xor, operator.lshift,
                 operator.rshift, operator.contains, operator.getitem, operator.iadd]
        for sign in signs:
            for value in (0, 1, None, "a", (), [], Live(LAY), LAY):
                with self.assertRaises(TypeError):
                    sign(live, value)
                if sign not in (operator.contains, operator.getitem, operator.mod) or value != "a":
                    if sign is not operator.contains or not isinstance(value, (tuple, list)):
                        with self.assertRaises(TypeError):
                            sign(value, live)
        for sign in (operator.neg, operator.pos, operator.invert, abs, iter):
            with self.assertRaises(TypeError):
                sign(live)
        with self.assertRaises(TypeError):
            live[0] = 1


class Interface(unittest.TestCase):
    def test_names(self):
        wanted = {"__init__": ["lay"], "cross": ["one", "other"], "cut": ["one"], "go": ["step"], "lead": ["goal"],
                  "away": ["goal"], "undo": ["many"], "copy": [], "trial": [], "__len__": [], "__eq__": ["other"]}
        for name, parameters in wanted.items():
            self.assertIn(name, vars(Live))
            told = inspect.signature(vars(Live)[name]).parameters
            self.assertEqual(list(told)[1:], parameters)
        self.assertEqual(inspect.signature(Live.undo).parameters["many"].default, 1)
        self.assertEqual(list(inspect.signature(under).parameters), ["manager", "deed"])
        self.assertEqual((Live.__module__, under.__module__), ("doublecut.live",) * 2)


if __name__ == "__main__":
    unittest.main()
