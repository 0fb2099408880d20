"""doublecut.numbered, [27]."""

import random
import unittest

from doublecut.good import good_steps
from doublecut.histories import is_history, lays_along, plain_history
from doublecut.least import is_least, least_count
from doublecut.lots import lays_of
from doublecut.numbered import count_through, first_counts, least_at, number_of

from tests.helpers import ODD_VALUES, WRONG_LAYS, model_lays, model_least, some_pairs, spoiled, strict, tells

FEW = [(one, other) for links in (1, 2) for one in model_lays(links) for other in model_lays(links)]
MORE = some_pairs(3, 60, 4) + [(lay, lay) for lay in model_lays(3)[::19]]
FOUR = some_pairs(4, 6, 5)
GREAT = some_pairs(12, 8, 6) + [
    lays_of(lot) for lot in ((("open", 12), ("shut", 12)), (("ring", 24),), (("open", 2),) * 6 + (("shut", 2),) * 6)
]
DETOUR = (((), ((0, 2),)), (((0, 2),), ((0, 1),)))


def given(history):
    """The same history, made anew."""
    return tuple(tuple(tuple((low, high) for low, high in side) for side in step) for step in history)


class Numbered(unittest.TestCase):
    def test_each_number(self):
        for one, other in FEW + MORE + FOUR:
            known = model_least(one, other)
            numbers = list(range(len(known)))
            for number in numbers[:12] + numbers[-3:] + numbers[12:-3:17]:
                history = least_at(one, other, number)
                self.assertEqual(strict(history), strict(known[number]))
                self.assertEqual(strict(number_of(one, other, given(history))), strict(number))
            for beyond in (len(known), -1, len(known) + 10 ** 900, -len(known), 10 ** 999, -10 ** 999):
                self.assertEqual(tells(least_at, one, other, beyond), ("BadNumber", {"value": beyond}))

    def test_twelve_links(self):
        draw = random.Random(7)
        for one, other in GREAT:
            count = least_count(one, other)
            numbers = {0, count - 1, draw.randrange(count), draw.randrange(count)}
            histories = []
            for number in sorted(numbers):
                history = least_at(one, other, number)
                self.assertTrue(is_least(one, other, history))
                self.assertEqual(number_of(one, other, history), number)
                histories.append(history)
            self.assertEqual(histories, sorted(histories))
            self.assertEqual(tells(least_at, one, other, count), ("BadNumber", {"value": count}))
            self.assertEqual(sum(many for _, many in first_counts(one, other)), count if one != other else 0)

    def test_the_same_lay_twice(self):
        for lay in ((1, ()), (12, ((0, 23),))):
            self.assertEqual(least_at(lay, lay, 0), ())
            self.assertEqual(strict(number_of(lay, lay, ())), "0")
            self.assertEqual(first_counts(lay, lay), ())
            self.assertEqual(strict(count_through(lay, lay, lay)), "1")
            self.assertEqual(tells(least_at, lay, lay, 1), ("BadNumber", {"value": 1}))

    def test_wrong_numbers(self):
        one, other = (2, ((0, 1),)), (2, ((2, 3),))
        known = {strict(number) for number in range(least_count(one, other))}
        for value in ODD_VALUES + [6, (0, 1), "5"]:
            if strict(value) not in known:
                found = tells(least_at, one, other, value)
                self.assertEqual(strict(found), strict(("BadNumber", {"value": value})))
        for value in (True, False):
            found = tells(least_at, one, one, value)
            self.assertEqual(strict(found), strict(("BadNumber", {"value": value})))


class NumberOf(unittest.TestCase):
    def test_none_for_others(self):
        one, other = (2, ()), (2, ((0, 1),))
        self.assertIsNone(number_of(one, other, DETOUR))
        self.assertIsNone(number_of(one, other, ()))
        self.assertIsNone(number_of(one, other, DETOUR[:1]))
        self.assertIsNone(number_of(one, one, DETOUR + ((((0, 1),), ()),)))
        self.assertEqual(strict(number_of(one, other, (((), ((0, 1),)),))), "0")
        for one, other in FEW + MORE:
            history = plain_history(one, other)
            known = model_least(one, other)
            wanted = known.index(history) if history in known else None
            self.assertEqual(strict(number_of(one, other, history)), strict(wanted))
            for third in model_lays(one[0])[::11]:
                if third != other:
                    self.assertIsNone(number_of(one, other, model_least(one, third)[0]))

    def test_places(self):
        one, other = (2, ()), (2, ((0, 1),))
        step, back = ((), ((0, 1),)), (((0, 1),), ())
        wrong = [(value, None if not isinstance(value, tuple) else 0) for value in ODD_VALUES if value != ()]
        wrong += [([step], None), ((step, None), 1), ((step, step), 1), ((step, back, back), 2), ((back,), 0)]
        wrong += [((step, back) * 30 + (step,), None), ((step,) * 61, None), ((list(step),), 0)]
        wrong += [((step, back, [step]), 2)]
        wrong += [((((), [(0, 1)]),), 0), ((((), ((False, True),)),), 0), ((((), ((0, True),)),), 0)]
        for value, place in wrong:
            self.assertEqual(tells(number_of, one, other, value), ("BadHistory", {"place": place}), value)
        self.assertIsNone(number_of(one, other, (step, back) * 30))
        for value in spoiled((step,)):
            found = tells(number_of, one, other, value)
            if is_history(one, value):
                wanted = 0 if strict(value) == strict((step,)) else None
                self.assertEqual(strict(found), strict(("value", wanted)))
            else:
                self.assertEqual(found[0], "BadHistory")


class FirstCounts(unittest.TestCase):
    def test_each_good_step(self):
        for one, other in FEW + MORE + FOUR:
            firsts = [history[0] for history in model_least(one, other) if history]
            wanted = tuple((step, firsts.count(step)) for step in sorted(set(firsts)))
            found = first_counts(one, other)
            self.assertEqual(strict(found), strict(wanted))
            self.assertEqual(tuple(step for step, _ in found), good_steps(one, other))


class Through(unittest.TestCase):
    def test_each_third_lay(self):
        for one, other in FEW[:40:3] + MORE[::12] + FOUR[:1]:
            along = [set(lays_along(one, history)) for history in model_least(one, other)]
            for third in model_lays(one[0])[::1 if one[0] < 4 else 9] + [one, other]:
                wanted = sum(third in lays for lays in along)
                self.assertEqual(strict(count_through(one, other, third)), strict(wanted))

    def test_all_of_them_at_the_ends(self):
        for one, other in GREAT:
            count = least_count(one, other)
            self.assertEqual(count_through(one, other, one), count)
            self.assertEqual(count_through(one, other, other), count)
            history = least_at(one, other, count // 2)
            for number, third in enumerate(lays_along(one, history)):
                ways = least_count(one, third) * least_count(third, other)
                self.assertEqual(count_through(one, other, third), ways)
                self.assertTrue(number == len(history) or ways > 0)

    def test_refused(self):
        one, other = (2, ((0, 1),)), (2, ())
        for wrong, place in WRONG_LAYS:
            self.assertEqual(tells(count_through, one, other, wrong), ("BadLay", {"place": place}))
            self.assertEqual(tells(count_through, wrong, (3, ()), wrong), ("BadLay", {"place": place}))
            self.assertEqual(tells(count_through, (3, ()), wrong, None), ("BadLay", {"place": place}))
        self.assertEqual(tells(count_through, one, other, (3, ())), ("Unlike", {}))
        self.assertEqual(tells(count_through, one, (3, ()), one), ("Unlike", {}))
        # the errors of one and other, Unlike() among them, stand ahead of those of third
        self.assertEqual(tells(count_through, one, (3, ()), None), ("Unlike", {}))


if __name__ == "__main__":
    unittest.main()
