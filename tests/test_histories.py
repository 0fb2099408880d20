"""doublecut.histories and [14]."""

import random
import unittest

from doublecut.histories import (
    backwards, comes_again, is_history, last_lay, lays_along, need_history, plain_history, shortened, touched,
)
from doublecut.steps import all_steps, lay_behind

from tests.helpers import ODD_VALUES, model_lays, model_step, some_lay, some_pairs, spoiled, strict, tells

ALL_LAYS = {links: model_lays(links) for links in (1, 2, 3)}
JOIN, CUT = ((), ((0, 1),)), (((0, 1),), ())
CALLS = (need_history, last_lay, lays_along, backwards, shortened, comes_again, touched)


def walk(lay, many, seed):
    """A history of so many steps, drawn by a seed, and the lays along it."""
    draw = random.Random(seed)
    lays, history = [lay], []
    for _ in range(many):
        history.append(draw.choice(all_steps(lays[-1])))
        lays.append(lay_behind(lays[-1], history[-1]))
    return tuple(history), tuple(lays)


WALKS = [
    (some_lay(links, joints, seed), many, seed)
    for links, joints in ((1, 0), (2, 1), (3, 3), (5, 2), (12, 7))
    for many in (0, 1, 2, 7, 60)
    for seed in range(4)
]


def model_again(lays):
    """The pair (I, J): J the least number behind which the lay is as behind some I below it."""
    pairs = [(end, start) for end in range(len(lays)) for start in range(end) if lays[start] == lays[end]]
    return min(pairs)[::-1] if pairs else None


def model_shortened(lay, history):
    left = list(history)
    while True:
        lays = [lay]
        for step in left:
            lays.append(lay_behind(lays[-1], step))
        again = model_again(lays)
        if again is None:
            return tuple(left)
        del left[again[0]:again[1]]


class Histories(unittest.TestCase):
    def test_walks(self):
        for lay, many, seed in WALKS:
            history, lays = walk(lay, many, seed)
            self.assertIs(need_history(lay, history), history)
            self.assertIs(is_history(lay, history), True)
            self.assertEqual(strict(lays_along(lay, history)), strict(lays))
            self.assertEqual(strict(last_lay(lay, history)), strict(lays[-1]))
            back = backwards(lay, history)
            self.assertEqual(strict(lays_along(lays[-1], back)), strict(lays[::-1]))
            ends = {end for step in history for side in step for joint in side for end in joint}
            self.assertEqual(strict(touched(lay, history)), strict(tuple(sorted(ends))))

    def test_sixty_steps_and_one_more(self):
        lay = (1, ())
        self.assertIs(is_history(lay, (JOIN, CUT) * 30), True)
        self.assertEqual(last_lay(lay, (JOIN, CUT) * 30), lay)
        self.assertEqual(len(lays_along(lay, (JOIN, CUT) * 30)), 61)
        longer = (JOIN, CUT) * 30 + (JOIN,)
        self.assertIs(is_history(lay, longer), False)
        for call in CALLS:
            self.assertEqual(tells(call, lay, longer), ("BadHistory", {"place": None}))
            self.assertEqual(tells(call, lay, (None,) * 61), ("BadHistory", {"place": None}))
            self.assertEqual(tells(call, lay, (None,) * 60), ("BadHistory", {"place": 0}))

    def test_wrong_histories(self):
        lay = (1, ())
        for value in ODD_VALUES:
            if isinstance(value, tuple) and value == ():
                continue
            place = 0 if isinstance(value, tuple) else None
            self.assertIs(is_history(lay, value), False)
            for call in CALLS:
                self.assertEqual(tells(call, lay, value), ("BadHistory", {"place": place}), value)
        for history, place in (
            ((CUT,), 0), ((JOIN, JOIN), 1), ((JOIN, CUT, CUT), 2), ((JOIN, [CUT]), 1), ([JOIN, CUT], None),
            ((JOIN, (((0, True),), ())), 1), ((((), ((False, True),)), CUT), 0), ((JOIN, CUT, None, None), 2),
            ((JOIN, CUT, JOIN, list(CUT)), 3),
        ):
            self.assertIs(is_history(lay, history), False)
            for call in CALLS:
                self.assertEqual(tells(call, lay, history), ("BadHistory", {"place": place}), history)

    def test_spoiled_histories(self):
        lay = (2, ((0, 3),))
        history = walk(lay, 3, 1)[0]
        for value in spoiled(history):
            self.assertIs(is_history(lay, value), self.model(lay, value), value)

    def model(self, lay, value):
        if not isinstance(value, tuple):
            return False
        for step in value:
            known = [met for met in all_steps(lay) if strict(met) == strict(step)]
            if not known:
                return False
            lay = lay_behind(lay, known[0])
        return True


class PlainHistories(unittest.TestCase):
    def check(self, one, other):
        history = plain_history(one, other)
        gone = sorted(set(one[1]) - set(other[1]))
        come = sorted(set(other[1]) - set(one[1]))
        told = [((joint,), ()) for joint in gone] + [((), (joint,)) for joint in come]
        self.assertEqual(strict(history), strict(tuple(told)))
        self.assertEqual(last_lay(one, history), other)

    def test_all_small_lays(self):
        for links in (1, 2):
            for one in ALL_LAYS[links]:
                for other in ALL_LAYS[links]:
                    self.check(one, other)
        for one in ALL_LAYS[3][::7]:
            for other in ALL_LAYS[3]:
                self.check(one, other)

    def test_great_lays(self):
        for one, other in some_pairs(12, 30, 1) + [(some_lay(12, 12, 1), some_lay(12, 12, 2))]:
            self.check(one, other)
        self.assertEqual(plain_history((12, ()), (12, ())), ())
        self.assertEqual(tells(plain_history, (12, ()), (11, ())), ("Unlike", {}))


class Shortened(unittest.TestCase):
    def test_walks(self):
        for lay, many, seed in WALKS:
            history, lays = walk(lay, many, seed)
            self.assertEqual(strict(comes_again(lay, history)), strict(model_again(lays)))
            short = shortened(lay, history)
            self.assertEqual(strict(short), strict(model_shortened(lay, history)))
            self.assertEqual(last_lay(lay, short), lays[-1])
            self.assertIsNone(comes_again(lay, short))

    def test_the_words_of_the_document(self):
        lay = (1, ())
        self.assertIsNone(comes_again(lay, ()))
        self.assertIsNone(comes_again(lay, (JOIN,)))
        self.assertEqual(comes_again(lay, (JOIN, CUT, JOIN)), (0, 2))
        self.assertEqual(shortened(lay, (JOIN, CUT, JOIN)), (JOIN,))
        self.assertEqual(shortened(lay, (JOIN, CUT)), ())
        self.assertEqual(shortened(lay, (JOIN, CUT) * 30), ())

    def test_what_comes_again_first_is_left_out_first(self):
        # the lays A B C B D B: what lies between the first two B goes first, then what lies between the two left
        one = (2, ())
        lays = [one, (2, ((0, 1),)), (2, ((0, 2),)), (2, ((0, 1),)), (2, ((0, 1), (2, 3))), (2, ((0, 1),))]
        history = tuple(model_step(ahead, behind) for ahead, behind in zip(lays, lays[1:]))
        self.assertEqual(comes_again(one, history), (1, 3))
        self.assertEqual(shortened(one, history), history[:1])


if __name__ == "__main__":
    unittest.main()
