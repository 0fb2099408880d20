"""doublecut.least, [26] and [27]."""

import unittest

from doublecut.histories import is_history, last_lay
from doublecut.least import a_least, all_least, is_least, least_count
from doublecut.lots import lays_of, lot_count
from doublecut.webs import pieces

from tests.helpers import (
    ODD_VALUES, WRONG_LAYS, model_lays, model_least, model_lots, some_pairs, spoiled, strict, tells, truth_values,
)

FEW = [(one, other) for links in (1, 2) for one in model_lays(links) for other in model_lays(links)]
MORE = some_pairs(3, 250, 1) + [(lay, lay) for lay in model_lays(3)[::9]]
FOUR = some_pairs(4, 15, 2)
RING, OTHER_RING = (4, ((0, 7), (1, 2), (3, 4), (5, 6))), (4, ((0, 3), (1, 6), (2, 5), (4, 7)))


class Least(unittest.TestCase):
    def test_all_least_histories(self):
        for one, other in FEW + MORE + FOUR:
            known = model_least(one, other)
            self.assertEqual(strict(least_count(one, other)), strict(len(known)))
            self.assertEqual(strict(all_least(one, other)), strict(tuple(known)))
            self.assertIn(a_least(one, other), known)
            for history in known[::7]:
                self.assertIs(is_least(one, other, history), True)

    def test_the_same_lay_twice(self):
        for links in (1, 5, 12):
            for lay in ((links, ()), (links, ((0, 1),)), (links, ((0, 2 * links - 1),))):
                self.assertEqual(least_count(lay, lay), 1)
                self.assertEqual(a_least(lay, lay), ())
                self.assertEqual(all_least(lay, lay), ((),))
                self.assertIs(is_least(lay, lay, ()), True)
                there_and_back = ((((0, 1),), ()), ((), ((0, 1),)))
                self.assertIs(is_least((1, ((0, 1),)), (1, ((0, 1),)), there_and_back), False)

    def test_what_the_document_tells_of_rings(self):
        # one ring of the cost D has (D + 1) ** (D - 1) least histories
        for cost, count in ((1, 1), (2, 3), (3, 16), (4, 125), (11, 12 ** 10)):
            one, other = lays_of((("ring", 2 * cost + 2),))
            self.assertEqual(least_count(one, other), count)
        # the open piece closes first, or a joint across is made, or the shut one opens
        self.assertEqual(least_count((2, ((0, 1),)), (2, ((2, 3),))), 6)

    def test_twelve_links(self):
        for one, other in some_pairs(12, 25, 3) + [lays_of(lot) for lot in ((("open", 12), ("shut", 12)),)]:
            self.assertEqual(least_count(one, other), lot_count(pieces(one, other)))
            history = a_least(one, other)
            self.assertTrue(is_history(one, history))
            self.assertEqual(last_lay(one, history), other)
            self.assertIs(is_least(one, other, history), True)
            kept = set(one[1]) & set(other[1])
            self.assertFalse(kept & {joint for cut, _ in history for joint in cut})

    def test_about_a_thousand(self):
        lots = [
            ((("odd", 1),) * 5 + (("odd", 5), ("open", 2), ("shut", 4)), 990),
            ((("odd", 1),) * 5 + (("odd", 3), ("open", 2), ("open", 4), ("shut", 2)), 1020),
            ((("open", 2),) * 4 + (("open", 4),), 1080), ((("open", 2),) * 6, 720), ((("open", 2),) * 12, 479001600),
            ((("ring", 12),), 1296), ((("open", 2), ("ring", 10)), 625),
        ]
        for lot, count in lots:
            one, other = lays_of(lot)
            self.assertEqual(least_count(one, other), count)
            if count > 1000:
                self.assertEqual(tells(all_least, one, other), ("TooGreat", {"most": 1000}))
            else:
                found = all_least(one, other)
                self.assertEqual(len(found), count)
                self.assertTrue(all(is_least(one, other, history) for history in found))
                self.assertTrue(all(one < other for one, other in zip(found, found[1:])))

    def test_each_small_lot(self):
        for lot in model_lots(6):
            one, other = lays_of(lot)
            self.assertEqual(least_count(one, other), len(model_least(one, other)))


class IsLeast(unittest.TestCase):
    def test_just_the_least_ones(self):
        for one, other in FEW + MORE[::10]:
            for third in model_lays(one[0])[::7]:
                for history in model_least(one, third)[::3]:
                    self.assertIs(is_least(one, other, history), third == other)

    def test_longer_ones_are_none(self):
        one, other = (2, ()), (2, ((0, 1),))
        detour = (((), ((0, 2),)), (((0, 2),), ((0, 1),)))
        self.assertEqual(last_lay(one, detour), other)
        self.assertIs(is_least(one, other, detour), False)
        self.assertIs(is_least(one, other, ((), ((0, 1),))), False)
        self.assertIs(is_least(one, other, (((), ((0, 1),)),)), True)

    def test_any_value(self):
        one, other = RING, OTHER_RING
        known = {strict(history) for history in model_least(one, other)}
        for history in model_least(one, other)[:2]:
            for value in list(spoiled(history))[::3] + truth_values(history) + ODD_VALUES:
                self.assertIs(is_least(one, other, value), strict(value) in known, value)
        step = ((), ((0, 1),))
        for value in (step, [step], (list(step),), ((step,),), (step,) * 61, {0: step}, (step, None), ((), (0, 1))):
            self.assertIs(is_least((1, ()), (1, ((0, 1),)), value), False)


class Refused(unittest.TestCase):
    def test_lays(self):
        lay = (2, ((0, 1),))
        for call, rest in ((least_count, []), (a_least, []), (all_least, []), (is_least, [()])):
            for wrong, place in WRONG_LAYS:
                self.assertEqual(tells(call, wrong, lay, *rest), ("BadLay", {"place": place}))
                self.assertEqual(tells(call, lay, wrong, *rest), ("BadLay", {"place": place}))
                self.assertEqual(tells(call, (1, ()), wrong, *rest), ("BadLay", {"place": place}))
            self.assertEqual(tells(call, lay, (1, ()), *rest), ("Unlike", {}))

    def test_unlike_ahead_of_too_many(self):
        one, _ = lays_of((("open", 2),) * 12)
        self.assertEqual(tells(all_least, one, (11, ())), ("Unlike", {}))


if __name__ == "__main__":
    unittest.main()
