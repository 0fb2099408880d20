"""doublecut.halving, [41] and [42]."""

import unittest

from doublecut.doubled import half, is_perfect
from doublecut.halves import halving_cost, twin_pieces
from doublecut.halving import check_halving, count_halvings, good_halvings, halved, halving, halving_paper
from doublecut.histories import is_history, last_lay, lays_along
from doublecut.steps import all_steps, lay_behind

from tests.helpers import ODD_VALUES, WRONG_LAYS, model_lays, some_lay, spoiled, strict, tells, truth_values

LAYS = model_lays(2) + model_lays(4)[::7] + [some_lay(6, joints, joints) for joints in range(7)]
GREATER = [some_lay(links, joints, 9 * links + joints) for links in (8, 10, 12) for joints in (0, 3, links - 2, links)]
BENT = (2, ((0, 2), (1, 3)))


def good_by_words(lay):
    cost = halving_cost(lay)
    return [step for step in all_steps(lay) if halving_cost(lay_behind(lay, step)) == cost - 1]


class Good(unittest.TestCase):
    def test_each_step(self):
        for lay in LAYS + GREATER:
            self.assertEqual(strict(good_halvings(lay)), strict(tuple(good_by_words(lay))))
            self.assertEqual(good_halvings(lay) == (), is_perfect(lay))

    def test_what_the_document_tells(self):
        self.assertEqual(good_halvings((2, ())), ())
        self.assertEqual(good_halvings((2, ((0, 1),))), (((), ((2, 3),)), (((0, 1),), ())))
        doubles = tuple((((0, 2), (1, 3)), made) for made in (((0, 1), (2, 3)), ((0, 3), (1, 2))))
        self.assertEqual(good_halvings(BENT), doubles)


class Halving(unittest.TestCase):
    def test_the_first_good_ones(self):
        for lay in LAYS + GREATER:
            history = halving(lay)
            self.assertIsInstance(history, tuple)
            lays = lays_along(lay, history)
            self.assertEqual(len(history), halving_cost(lay))
            for here, step in zip(lays, history):
                self.assertEqual(strict(step), strict(good_by_words(here)[0]))
            self.assertIs(is_perfect(lays[-1]), True)
            self.assertEqual(strict(halved(lay)), strict(half(lays[-1])))

    def test_a_perfect_lay(self):
        for lay, single in (((12, ()), (6, ())), ((2, ((0, 3), (1, 2))), (1, ((0, 1),)))):
            self.assertEqual(halving(lay), ())
            self.assertEqual(halved(lay), single)
            self.assertEqual(check_halving(lay, halving_paper(lay)), 0)


class Papers(unittest.TestCase):
    def test_they_hold(self):
        for lay in LAYS + GREATER:
            paper = halving_paper(lay)
            self.assertIsInstance(paper, tuple)
            self.assertEqual(len(paper), 2)
            self.assertEqual(strict(check_halving(lay, paper)), strict(halving_cost(lay)))

    def test_any_least_history_to_a_perfect_lay_holds(self):
        for lay in LAYS[1::4]:
            for first in good_by_words(lay)[::2]:
                met = lay_behind(lay, first)
                paper = (first, *halving(met)), twin_pieces(lay)
                self.assertEqual(check_halving(lay, paper), halving_cost(lay))

    def test_form_then_history_then_pieces(self):
        lay, pieces = (2, ((0, 1),)), (("path", 2),)
        cut, join = (((0, 1),), ()), ((), ((2, 3),))
        for value in ODD_VALUES + [[(cut,), pieces], ((cut,),), ((cut,), pieces, ()), "ab", b"ab"]:
            word = "history" if isinstance(value, tuple) and len(value) == 2 else "form"
            self.assertEqual(tells(check_halving, lay, value), ("BadPaper", {"word": word}), value)
        for history in ODD_VALUES + [[cut], (cut, cut), (cut, join), (list(cut),), cut, (cut,) * 61]:
            for told in (pieces, None, ()):
                self.assertEqual(tells(check_halving, lay, (history, told)), ("BadPaper", {"word": "history"}), history)
        self.assertEqual(check_halving(lay, ((cut,), pieces)), 1)
        self.assertEqual(check_halving(lay, ((join,), pieces)), 1)
        longer = (cut, ((), ((0, 3),)), (((0, 3),), ()))
        self.assertTrue(is_history(lay, longer))
        self.assertIs(is_perfect(last_lay(lay, longer)), True)
        self.assertEqual(tells(check_halving, lay, (longer, pieces)), ("BadPaper", {"word": "pieces"}))
        there_and_back = (((), ((0, 1),)), (((0, 1),), ()))
        self.assertEqual(check_halving((2, ()), ((), (("path", 1),) * 2)), 0)
        found = tells(check_halving, (2, ()), (there_and_back, (("path", 1),) * 2))
        self.assertEqual(found, ("BadPaper", {"word": "pieces"}))

    def test_pieces(self):
        for lay in (BENT, (2, ()), (4, ((0, 4), (1, 2))), (4, ((0, 1), (2, 4)))):
            history, pieces = halving_paper(lay)
            values = [value for told in truth_values(pieces) for value in [told, *spoiled(told)]]
            for value in values + [pieces[::-1], pieces[1:], pieces + pieces[-1:], list(pieces)]:
                wanted = ("BadPaper", {"word": "pieces"})
                if strict(value) == strict(pieces):
                    wanted = ("value", len(history))
                self.assertEqual(strict(tells(check_halving, lay, (history, value))), strict(wanted), value)

    def test_spoiled_histories(self):
        lay = (4, ((0, 1), (2, 4)))
        history, pieces = halving_paper(lay)
        for value in list(spoiled(history))[::2] + truth_values(history):
            if not is_history(lay, value) or not is_perfect(last_lay(lay, value)):
                wanted = ("BadPaper", {"word": "history"})
            elif len(value) != halving_cost(lay):
                wanted = ("BadPaper", {"word": "pieces"})
            else:
                wanted = ("value", halving_cost(lay))
            self.assertEqual(strict(tells(check_halving, lay, (value, pieces))), strict(wanted), value)


class Counts(unittest.TestCase):
    def test_by_going_through_them(self):
        for lay in LAYS:
            good = good_by_words(lay)
            pairs = sum(len(good_by_words(lay_behind(lay, step))) for step in good)
            for many, count in enumerate((1, len(good), pairs)):
                self.assertEqual(strict(count_halvings(lay, many)), strict(count))

    def test_twelve_links(self):
        for lay in GREATER:
            good = good_halvings(lay)
            self.assertEqual(count_halvings(lay, 0), 1)
            self.assertEqual(count_halvings(lay, 1), len(good))
            if lay[0] < 10:
                pairs = sum(len(good_halvings(lay_behind(lay, step))) for step in good)
                self.assertEqual(count_halvings(lay, 2), pairs)
        self.assertEqual([count_halvings((12, ()), many) for many in range(3)], [1, 0, 0])
        # two of the twelve rings with one tie become one with two ties, in two ways; then two of the other ten
        apart = (12, tuple((end, end + 12) for end in range(12)))
        self.assertEqual(halving_cost(apart), 6)
        self.assertEqual(count_halvings(apart, 1), len(good_halvings(apart)))
        self.assertEqual(count_halvings(apart, 2), 132 * 90)

    def test_wrong_numbers(self):
        for lay in (BENT, (12, ())):
            for value in ODD_VALUES + [3, -1, "1", (1,)]:
                if strict(value) not in ("0", "1", "2"):
                    wanted = strict(("BadNumber", {"value": value}))
                    self.assertEqual(strict(tells(count_halvings, lay, value)), wanted)


class Refused(unittest.TestCase):
    def test_lays(self):
        calls = [(good_halvings, []), (halving, []), (halved, []), (halving_paper, []), (check_halving, [None])]
        for call, rest in calls + [(count_halvings, [None])]:
            for wrong, place in WRONG_LAYS:
                self.assertEqual(tells(call, wrong, *rest), ("BadLay", {"place": place}))
            for links in (1, 3, 5, 7, 9, 11):
                self.assertEqual(tells(call, (links, ((0, 1),)), *rest), ("BadLay", {"place": (0,)}))


if __name__ == "__main__":
    unittest.main()
