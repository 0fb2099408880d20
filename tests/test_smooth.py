"""doublecut.smooth, [30]."""

import random
import unittest

from doublecut.chains import count_chains
from doublecut.costs import least_steps
from doublecut.histories import is_history, last_lay
from doublecut.least import is_least
from doublecut.smooth import is_smooth, smooth_history
from doublecut.steps import all_steps, lay_behind

from tests.helpers import ODD_VALUES, WRONG_LAYS, model_behind, model_lays, some_lines, spoiled, strict, tells

CLOSE, OPEN = ((), ((0, 1),)), (((0, 1),), ())


def without_rings(links):
    return [lay for lay in model_lays(links) if count_chains(lay)[1] == 0]


def is_smooth_by_words(one, steps):
    """Whether steps, one behind the other, are smooth."""
    rings = [count_chains(one)[1]]
    here = one
    for step in steps:
        here = lay_behind(here, step)
        rings.append(count_chains(here)[1])
    return rings[-1] == 0 and all(0 in pair for pair in zip(rings, rings[1:]))


class SmoothHistories(unittest.TestCase):
    def check(self, one, other):
        history = smooth_history(one, other)
        self.assertIsInstance(history, tuple)
        self.assertIs(is_least(one, other, history), True)
        self.assertEqual(last_lay(one, history), other)
        self.assertTrue(is_smooth_by_words(one, history))
        self.assertIs(is_smooth(one, history), True)

    def test_lays_of_few_links(self):
        for links in (1, 2):
            for one in without_rings(links):
                for other in without_rings(links):
                    self.check(one, other)
        lays = without_rings(3)
        for one in lays:
            for other in lays[::3]:
                self.check(one, other)
        for one in without_rings(4)[::23]:
            for other in without_rings(4)[::19]:
                self.check(one, other)

    def test_lays_of_many_links(self):
        draw = random.Random(12)
        for links in (5, 7, 9, 12):
            for lines in (1, 1, 2, 3, links):
                for more in (1, 1, 2, links):
                    self.check(some_lines(links, lines, draw), some_lines(links, more, draw))

    def test_the_same_lay_twice(self):
        for lay in ((1, ()), (12, ()), (2, ((1, 2),))):
            self.assertEqual(smooth_history(lay, lay), ())

    def test_links_turned_about_and_changed(self):
        line = (12, tuple((2 * link + 1, 2 * link + 2) for link in range(11)))
        # the middle two change places: no step but one by which a ring comes is good
        other = (12, tuple(sorted(line[1][:4] + line[1][7:] + ((9, 12), (11, 14), (10, 13)))))
        self.assertEqual(least_steps(line, other), 2)
        self.check(line, other)
        behind = lay_behind(line, smooth_history(line, other)[0])
        self.assertEqual(count_chains(behind), (1, 1))


class IsSmooth(unittest.TestCase):
    def test_one_link_and_as_many_steps_as_one_likes(self):
        bare = (1, ())
        for many in (0, 1, 2, 30, 31, 500):
            self.assertIs(is_smooth(bare, (CLOSE, OPEN) * many), True)
            self.assertIs(is_smooth(bare, (CLOSE, OPEN) * many + (CLOSE,)), False)
            self.assertIs(is_smooth(bare, (CLOSE, OPEN) * many + (OPEN,)), False)
        self.assertFalse(is_history(bare, (CLOSE, OPEN) * 31))

    def test_rings_that_stay(self):
        bare = (2, ())
        second = ((), ((2, 3),))
        self.assertIs(is_smooth(bare, (CLOSE, OPEN, second, (((2, 3),), ()))), True)
        self.assertIs(is_smooth(bare, (CLOSE, second, OPEN, (((2, 3),), ()))), False)
        turned = (((0, 1),), ((0, 2),))
        self.assertIs(is_smooth(bare, (CLOSE, turned)), True)
        self.assertIs(is_smooth(bare, (CLOSE, turned, (((0, 2),), ((0, 1),)))), False)
        # another ring in the place of the first one
        self.assertIs(is_smooth(bare, (((), ((0, 2),)), ((), ((1, 3),)), (((0, 2), (1, 3)), ((0, 1), (2, 3))))), False)

    def test_all_of_two_steps(self):
        for one in without_rings(2):
            self.assertIs(is_smooth(one, ()), True)
            for step, met in model_behind(one):
                self.assertIs(is_smooth(one, (step,)), is_smooth_by_words(one, (step,)))
                for after, _ in model_behind(met):
                    self.assertIs(is_smooth(one, (step, after)), is_smooth_by_words(one, (step, after)))

    def test_some_of_many_steps(self):
        draw = random.Random(13)
        told = []
        for _ in range(300):
            one = some_lines(3, 2, draw)
            here, steps = one, []
            for _ in range(draw.randint(1, 6)):
                steps.append(draw.choice(all_steps(here)))
                here = lay_behind(here, steps[-1])
            told.append(is_smooth(one, tuple(steps)))
            self.assertIs(told[-1], is_smooth_by_words(one, steps))
        self.assertEqual(sorted(set(told)), [False, True])

    def test_any_value(self):
        wrong = [[CLOSE, OPEN], (list(CLOSE), OPEN), (CLOSE, None), (CLOSE, OPEN, ()), CLOSE, (CLOSE,)]
        for value in ODD_VALUES + wrong:
            self.assertIs(is_smooth((1, ()), value), value == () and isinstance(value, tuple))
        one, step = (2, ()), ((), ((1, 2),))
        known = [strict(steps) for steps in [(), (step,), (((), ((0, 2),)),), (((), ((1, 3),)),)]]
        for value in spoiled((step,)):
            self.assertIs(is_smooth(one, value), strict(value) in known, value)


class Refused(unittest.TestCase):
    def test_lays_then_unlike_then_rings(self):
        ring, line = (2, ((0, 3), (1, 2))), (2, ())
        for wrong, place in WRONG_LAYS:
            self.assertEqual(tells(smooth_history, wrong, ring), ("BadLay", {"place": place}))
            self.assertEqual(tells(smooth_history, ring, wrong), ("BadLay", {"place": place}))
            self.assertEqual(tells(smooth_history, (1, ((0, 1),)), wrong), ("BadLay", {"place": place}))
            self.assertEqual(tells(is_smooth, wrong, ()), ("BadLay", {"place": place}))
        self.assertEqual(tells(smooth_history, ring, (3, ())), ("Unlike", {}))
        self.assertEqual(tells(smooth_history, (3, ()), ring), ("Unlike", {}))
        for one, other in ((ring, line), (line, ring), (ring, ring), ((2, ((0, 1),)), line), (line, (2, ((2, 3),)))):
            self.assertEqual(tells(smooth_history, one, other), ("BadLay", {"place": (1,)}))
        for value in ((), None, ((((0, 3),), ()),)):
            self.assertEqual(tells(is_smooth, ring, value), ("BadLay", {"place": (1,)}))
        self.assertEqual(tells(is_smooth, (1, ((0, 1),)), (OPEN,)), ("BadLay", {"place": (1,)}))


if __name__ == "__main__":
    unittest.main()
