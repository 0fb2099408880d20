"""doublecut.steps and [13]."""

import unittest

from doublecut.chains import count_chains
from doublecut.steps import (
    all_steps, change_of, is_step, lay_behind, need_step, sort_of, step_back, step_between,
)

from tests.helpers import ODD_VALUES, model_lays, model_steps, some_lay, spoiled, strict, tells, truth_values

ALL_LAYS = {links: model_lays(links) for links in (1, 2, 3)}
WORDS = {(2, 2): "double", (1, 1): "shift", (1, 0): "cut", (0, 1): "join"}
GREAT = [some_lay(12, joints, joints) for joints in (0, 1, 5, 8, 11, 12)] + [some_lay(4, 3, 1), some_lay(5, 3, 2)]


class Steps(unittest.TestCase):
    def test_all_steps_of_small_lays(self):
        for links in ALL_LAYS:
            for lay in ALL_LAYS[links]:
                known = model_steps(lay, ALL_LAYS[links])
                self.assertEqual(strict(all_steps(lay)), strict(tuple(step for step, _ in known)))
                for step, behind in known:
                    self.assertIs(is_step(lay, step), True)
                    self.assertIs(need_step(lay, step), step)
                    self.assertEqual(strict(lay_behind(lay, step)), strict(behind))
                    self.assertEqual(strict(step_between(lay, behind)), strict(step))
                    self.assertEqual(sort_of(lay, step), WORDS[(len(step[0]), len(step[1]))])

    def test_the_words_of_the_document(self):
        lay = (3, ((0, 1), (2, 3)))
        self.assertEqual(sort_of(lay, (((0, 1), (2, 3)), ((0, 2), (1, 3)))), "double")
        self.assertEqual(sort_of(lay, (((0, 1), (2, 3)), ((0, 3), (1, 2)))), "double")
        self.assertEqual(sort_of(lay, (((0, 1),), ((1, 4),))), "shift")
        self.assertEqual(sort_of(lay, (((0, 1),), ())), "cut")
        self.assertEqual(sort_of(lay, ((), ((4, 5),))), "join")
        self.assertEqual(all_steps((1, ())), (((), ((0, 1),)),))
        self.assertEqual(all_steps((1, ((0, 1),))), ((((0, 1),), ()),))

    def test_steps_of_great_lays(self):
        for lay in GREAT:
            steps = all_steps(lay)
            self.assertEqual(list(steps), sorted(set(steps)))
            joints = len(lay[1])
            free = 2 * lay[0] - 2 * joints
            words = [sort_of(lay, step) for step in steps]
            self.assertEqual(words.count("double"), joints * (joints - 1))
            self.assertEqual(words.count("shift"), 2 * joints * free)
            self.assertEqual(words.count("cut"), joints)
            self.assertEqual(words.count("join"), free * (free - 1) // 2)
            self.assertEqual(len(words), sum(words.count(word) for word in WORDS.values()))
            # unlike steps lead to unlike lays, and each has one that leads back
            behind = [lay_behind(lay, step) for step in steps]
            self.assertEqual(len(set(behind)), len(steps))
            self.assertNotIn(lay, behind)
            for step, other in zip(steps, behind):
                back = step_back(lay, step)
                self.assertEqual(strict(back), strict((step[1], step[0])))
                self.assertEqual(lay_behind(other, back), lay)
                self.assertEqual(step_between(other, lay), back)

    def test_step_between_lays_that_no_step_joins(self):
        for links in (1, 2, 3):
            for one in ALL_LAYS[links]:
                known = {other: step for step, other in model_steps(one, ALL_LAYS[links])}
                for other in ALL_LAYS[links]:
                    self.assertEqual(step_between(one, other), known.get(other))
        self.assertIsNone(step_between((12, ()), (12, ())))
        self.assertEqual(tells(step_between, (1, ()), (2, ())), ("Unlike", {}))

    def test_change_of(self):
        for links in ALL_LAYS:
            for lay in ALL_LAYS[links]:
                lines, rings = count_chains(lay)
                for step in all_steps(lay):
                    more = count_chains(lay_behind(lay, step))
                    self.assertEqual(strict(change_of(lay, step)), strict((more[0] - lines, more[1] - rings)))
        self.assertEqual(change_of((1, ()), ((), ((0, 1),))), (-1, 1))
        self.assertEqual(change_of((2, ((1, 2),)), (((1, 2),), ())), (1, 0))
        self.assertEqual(change_of((2, ((1, 2),)), (((1, 2),), ((2, 3),))), (0, 1))


class WrongSteps(unittest.TestCase):
    def test_spoiled_steps(self):
        lays = ALL_LAYS[1] + ALL_LAYS[2] + [(3, ((0, 1), (2, 3))), (3, ((1, 2), (3, 4)))]
        for lay in lays:
            known = {strict(step) for step in all_steps(lay)}
            for step in all_steps(lay):
                for value in list(spoiled(step)) + truth_values(step):
                    self.assertIs(is_step(lay, value), strict(value) in known, (lay, value))
                    if strict(value) not in known:
                        self.assertEqual(tells(need_step, lay, value), ("BadStep", {"value": value}))

    def test_all_pairs_of_tuples_of_joints(self):
        joints = [(low, high) for high in range(6) for low in range(high)]
        sides = [()] + [(one,) for one in joints] + [(one, other) for one in joints for other in joints]
        for lay in ((3, ((0, 1), (2, 3))), (3, ((0, 5), (1, 2), (3, 4))), (3, ())):
            known = set(all_steps(lay))
            for cut in [(), ((0, 1),), ((0, 1), (2, 3)), ((2, 3), (0, 1)), ((1, 2),), ((1, 2), (3, 4)), ((0, 2),)]:
                for made in sides:
                    self.assertIs(is_step(lay, (cut, made)), (cut, made) in known)

    def test_each_function_refuses(self):
        lay = (2, ((0, 3),))
        more = [((), ()), (((0, 3),), ((0, 3),)), (((1, 2),), ()), ((), ((0, 1),)), (((0, 3),), ((1, 2),)),
                (((0, 3),), ((0, 1), (2, 3))), (((0, 3),), ((0, 4),)), [((0, 3),), ()], (((0, 3),), None)]
        for value in ODD_VALUES + more:
            for call in (need_step, lay_behind, step_back, sort_of, change_of):
                self.assertEqual(tells(call, lay, value), ("BadStep", {"value": value}), value)
            self.assertIs(is_step(lay, value), False)


if __name__ == "__main__":
    unittest.main()
