"""doublecut.single, [43] and [44]."""

import random
import unittest
from functools import lru_cache
from itertools import permutations
from math import factorial

from doublecut.costs import least_steps
from doublecut.histories import is_history, last_lay, plain_history
from doublecut.lots import lays_of
from doublecut.single import is_single, single_at, single_count, single_number, single_place, single_steps
from doublecut.steps import all_steps

from tests.helpers import (
    ODD_VALUES, WRONG_LAYS, distances, model_behind, model_lays, some_lay, some_pairs, spoiled, strict, tells,
)

FEW = [(one, other) for links in (1, 2) for one in model_lays(links) for other in model_lays(links)]
MORE = some_pairs(3, 120, 21) + [(lay, lay) for lay in model_lays(3)[::15]]
GREAT = some_pairs(12, 10, 22) + [((12, ()), some_lay(12, 12, 1)), (some_lay(12, 12, 2), some_lay(12, 12, 3))]


def one_joint(step):
    return sum(len(side) for side in step) == 1


@lru_cache(None)
def single_behind(lay):
    return [(step, met) for step, met in model_behind(lay) if one_joint(step)]


@lru_cache(None)
def single_away(lay):
    return distances(lay, lambda here: [met for _, met in single_behind(here)])


def model_singles(one, other):
    """All least single histories, ascending, by a plain search over all single steps."""
    away = single_away(other)
    if one == other:
        return [()]
    return [
        (step, *behind) for step, met in single_behind(one) if away[met] == away[one] - 1
        for behind in model_singles(met, other)
    ]


def turns_by_words(things):
    """In how many orders so many things in a row can be done, each, by turns, ahead of its neighbours or behind."""
    return sum(
        all((place[at] < place[at + 1]) == (at % 2 == 0) for at in range(things - 1))
        for place in permutations(range(things))
    )


class Steps(unittest.TestCase):
    def test_each_step(self):
        for lay in model_lays(1) + model_lays(2) + model_lays(3)[::5] + [some_lay(12, 7, 1), (12, ())]:
            steps = all_steps(lay)
            self.assertEqual(strict(single_steps(lay)), strict(tuple(step for step in steps if one_joint(step))))
            for step in steps[::3]:
                self.assertIs(is_single(lay, step), one_joint(step))

    def test_what_the_document_tells(self):
        self.assertEqual(single_steps((1, ())), (((), ((0, 1),)),))
        self.assertEqual(single_steps((1, ((0, 1),))), ((((0, 1),), ()),))
        lay = (2, ((0, 1),))
        self.assertEqual(single_steps(lay), (((), ((2, 3),)), (((0, 1),), ())))
        self.assertIs(is_single(lay, (((0, 1),), ((0, 2),))), False)
        self.assertIs(is_single((2, ((0, 1), (2, 3))), (((0, 1), (2, 3)), ((0, 2), (1, 3)))), False)

    def test_no_steps(self):
        for value in ODD_VALUES + [(((2, 3),), ()), (((0, 1),), ((0, 1),)), ((), ((0, 2),)), [((0, 1),), ()], ((), ())]:
            found = tells(is_single, (2, ((0, 1),)), value)
            self.assertEqual(strict(found), strict(("BadStep", {"value": value})))


class Differences(unittest.TestCase):
    def test_by_a_plain_search(self):
        for one, other in FEW + MORE:
            self.assertEqual(strict(single_number(one, other)), strict(single_away(other)[one]))

    def test_facts(self):
        for one, other in FEW + MORE + GREAT:
            found = single_number(one, other)
            self.assertEqual(found, len(set(one[1]) ^ set(other[1])))
            self.assertLessEqual(least_steps(one, other), found)
            self.assertLessEqual(found, 4 * least_steps(one, other))
            self.assertEqual(found, len(plain_history(one, other)))


class Counts(unittest.TestCase):
    def test_by_a_plain_search(self):
        for one, other in FEW + MORE:
            self.assertEqual(strict(single_count(one, other)), strict(len(model_singles(one, other))))

    def test_pieces(self):
        turns = [turns_by_words(things) for things in range(8)]
        self.assertEqual(turns[:6], [1, 1, 1, 2, 5, 16])
        for size in range(2, 9, 2):
            for kind in ("open", "shut"):
                self.assertEqual(single_count(*lays_of(((kind, size),))), turns[size - 1])
            if size > 2:
                self.assertEqual(single_count(*lays_of((("ring", size),))), size // 2 * turns[size - 1])
            self.assertEqual(single_count(*lays_of((("odd", 1), ("odd", size - 1)))), turns[size - 2])
        # a joint of both lays is a ring of two ends, and never cut
        self.assertEqual(single_count(*lays_of((("ring", 2),))), 1)
        self.assertEqual(single_count(*lays_of((("ring", 2),) * 12)), 1)
        self.assertEqual(single_count(*lays_of((("ring", 4), ("ring", 4)))), 4 * 4 * 70)
        self.assertEqual(single_count(*lays_of((("odd", 3), ("odd", 3), ("ring", 2), ("shut", 2)))), 30)

    def test_twelve_links(self):
        bare = (12, ())
        for joints in (1, 6, 12):
            lay = some_lay(12, joints, joints)
            self.assertEqual(single_count(bare, lay), factorial(joints))
            self.assertEqual(single_count(lay, bare), factorial(joints))
        one, other = lays_of((("ring", 24),))
        # the tangent number of 23 things in a row
        self.assertEqual(single_count(one, other), 12 * 1015423886506852352)
        for one, other in GREAT:
            self.assertEqual(single_count(one, other), single_count(other, one))


class Numbers(unittest.TestCase):
    def test_each_number(self):
        for one, other in FEW + MORE:
            known = model_singles(one, other)
            numbers = list(range(len(known)))
            for number in numbers[:10] + numbers[-3:] + numbers[10:-3:7]:
                self.assertEqual(strict(single_at(one, other, number)), strict(known[number]))
                self.assertEqual(strict(single_place(one, other, known[number])), strict(number))
            for beyond in (len(known), -1, -len(known), 10 ** 999):
                self.assertEqual(tells(single_at, one, other, beyond), ("BadNumber", {"value": beyond}))

    def test_twelve_links(self):
        draw = random.Random(23)
        for one, other in GREAT:
            count = single_count(one, other)
            found = []
            for number in sorted({0, count - 1, draw.randrange(count), draw.randrange(count)}):
                history = single_at(one, other, number)
                self.assertTrue(is_history(one, history) and all(one_joint(step) for step in history))
                self.assertEqual((last_lay(one, history), len(history)), (other, single_number(one, other)))
                self.assertEqual(single_place(one, other, history), number)
                found.append(history)
            self.assertEqual(found, sorted(found))
            self.assertEqual(tells(single_at, one, other, count), ("BadNumber", {"value": count}))

    def test_the_same_lay_twice(self):
        for lay in ((1, ()), (12, ((0, 23),))):
            self.assertEqual((single_number(lay, lay), single_count(lay, lay)), (0, 1))
            self.assertEqual(single_at(lay, lay, 0), ())
            self.assertEqual(strict(single_place(lay, lay, ())), "0")
            self.assertIsNone(single_place((1, ()), (1, ()), (((), ((0, 1),)), (((0, 1),), ()))))

    def test_wrong_numbers(self):
        one, other = (2, ((0, 1),)), (2, ((2, 3),))
        for value in ODD_VALUES + [2, "0", (0,)]:
            if strict(value) not in ("0", "1"):
                found = tells(single_at, one, other, value)
                self.assertEqual(strict(found), strict(("BadNumber", {"value": value})))


class Places(unittest.TestCase):
    def test_none_for_others(self):
        one, other = (2, ((0, 1),)), (2, ((0, 2),))
        shift = (((0, 1),), ((0, 2),))
        self.assertIsNone(single_place(one, other, (shift,)))
        self.assertIsNone(single_place(one, other, ()))
        self.assertEqual(single_place(one, other, ((((0, 1),), ()), ((), ((0, 2),)))), 0)
        # as many steps as the difference, and to the other lay, but not all of them single
        turned = ((((0, 1),), ((1, 3),)), (((1, 3),), ((2, 3),)))
        self.assertIsNone(single_place(one, (2, ((2, 3),)), turned))
        self.assertIsNone(single_place(one, one, (shift, (shift[1], shift[0]))))
        # single ones alone, but too many
        longer = (((), ((2, 3),)), (((2, 3),), ()), (((0, 1),), ()), ((), ((0, 2),)))
        self.assertIsNone(single_place(one, other, longer))
        self.assertIsNone(single_place(one, (2, ()), longer[2:]))

    def test_plain_histories(self):
        for one, other in FEW + MORE:
            history = plain_history(one, other)
            self.assertEqual(single_place(one, other, history), model_singles(one, other).index(history))

    def test_all_histories_of_two_steps(self):
        for one in model_lays(2)[::3]:
            for step, met in model_behind(one):
                for after, last in model_behind(met):
                    for other in model_lays(2)[::2]:
                        known = model_singles(one, other)
                        wanted = known.index((step, after)) if (step, after) in known else None
                        self.assertEqual(strict(single_place(one, other, (step, after))), strict(wanted))

    def test_places(self):
        one, other = (2, ()), (2, ((0, 1),))
        step, back = ((), ((0, 1),)), (((0, 1),), ())
        wrong = [(value, None if not isinstance(value, tuple) else 0) for value in ODD_VALUES if value != ()]
        wrong += [([step], None), ((step, None), 1), ((step, step), 1), ((step, back, back), 2), ((back,), 0)]
        wrong += [((step, back) * 30 + (step,), None), ((list(step),), 0), ((step, back, [step]), 2)]
        for value, place in wrong:
            self.assertEqual(tells(single_place, one, other, value), ("BadHistory", {"place": place}), value)
        self.assertIsNone(single_place(one, other, (step, back) * 30))
        for value in spoiled((step,)):
            found = tells(single_place, one, other, value)
            if is_history(one, value):
                wanted = 0 if strict(value) == strict((step,)) else None
                self.assertEqual(strict(found), strict(("value", wanted)))
            else:
                self.assertEqual(found[0], "BadHistory")


class Refused(unittest.TestCase):
    def test_lays(self):
        lay = (2, ((0, 1),))
        for call, rest in ((single_number, []), (single_count, []), (single_at, [None]), (single_place, [None])):
            for wrong, place in WRONG_LAYS:
                self.assertEqual(tells(call, wrong, None, *rest), ("BadLay", {"place": place}))
                self.assertEqual(tells(call, lay, wrong, *rest), ("BadLay", {"place": place}))
            self.assertEqual(tells(call, lay, (3, ()), *rest), ("Unlike", {}))
        for call, rest in ((is_single, [None]), (single_steps, [])):
            for wrong, place in WRONG_LAYS:
                self.assertEqual(tells(call, wrong, *rest), ("BadLay", {"place": place}))


if __name__ == "__main__":
    unittest.main()
