"""doublecut.between, [28] and [29]."""

import unittest
from math import comb

from doublecut.between import all_between, between_counts, free_between, joints_between, lies_between
from doublecut.costs import is_between, least_steps
from doublecut.lots import lays_of
from doublecut.webs import kinds

from tests.helpers import (
    WRONG_LAYS, model_away, model_between, model_lays, model_lots, some_lay, some_pairs, strict, tells,
)

FEW = [(one, other) for links in (1, 2) for one in model_lays(links) for other in model_lays(links)]
MORE = some_pairs(3, 200, 8) + [(lay, lay) for lay in model_lays(3)[::9]]
FOUR = some_pairs(4, 30, 9)
SMALL_LOTS = [lays_of(lot) for lot in model_lots(6)]
# with an open piece and a shut one, how many lays lie between
MIXED = [
    ((("open", 2), ("shut", 2)), 8), ((("open", 2), ("shut", 4)), 24), ((("open", 4), ("shut", 4)), 77),
    ((("open", 4), ("shut", 6)), 248), ((("odd", 3), ("odd", 5), ("open", 2), ("shut", 2)), 80),
    ((("open", 2), ("open", 4), ("open", 4), ("shut", 2)), 480), ((("open", 4), ("ring", 4), ("shut", 6)), 496),
]
MIXED_GREAT = [
    (("open", 2), ("open", 2), ("open", 6), ("shut", 2)), (("open", 4), ("open", 4), ("shut", 4)),
    (("open", 6), ("shut", 6)), (("open", 12), ("shut", 12)), (("open", 2), ("ring", 20), ("shut", 2)),
    (("open", 2),) * 6 + (("shut", 2),) * 6, (("open", 2),) * 3 + (("ring", 4), ("ring", 6), ("shut", 2)),
]
# without both
PLAIN = [
    ((("odd", 1),) + (("odd", 3),) * 2 + (("odd", 5),) * 3, 500), ((("open", 2),) * 2 + (("open", 4),) * 3, 500),
    ((("shut", 2),) * 2 + (("shut", 4),) * 3, 500), ((("open", 12),), 429), ((("ring", 14),), 429),
    ((("ring", 2),) * 4 + (("ring", 14),), 429), ((("odd", 1),) * 8 + (("odd", 3), ("odd", 13)), 858),
    ((("open", 2),) * 9, 512), ((("ring", 4),) * 6, 64), ((("odd", 1),) * 24, 1), ((("ring", 24),), 208012),
    ((("open", 24),), 742900), ((("shut", 24),), 742900), ((("odd", 11), ("odd", 13)), 132 * 429 * 1),
]


def counts_by_words(lot):
    """How many lays lie between at each distance, by the sum of products of the document."""
    costs = [size // 2 - (kind == "ring") for kind, size in lot]
    chosen = {0: 1}
    for cost in costs:
        more = {}
        for away, ways in chosen.items():
            for further in range(cost + 1):
                here = ways * comb(cost + 1, further + 1) * comb(cost + 1, further) // (cost + 1)
                more[away + further] = more.get(away + further, 0) + here
        chosen = more
    return tuple(chosen[away] for away in range(sum(costs) + 1))


class Between(unittest.TestCase):
    def test_by_a_plain_search(self):
        for one, other in FEW + MORE + FOUR + SMALL_LOTS:
            known = model_between(one, other)
            away = model_away(one)
            counts = [sum(away[lay] == number for lay in known) for number in range(away[other] + 1)]
            self.assertEqual(strict(all_between(one, other)), strict(tuple(known)))
            self.assertEqual(strict(between_counts(one, other)), strict(tuple(counts)))
            joints = sorted({joint for lay in known for joint in lay[1]})
            self.assertEqual(strict(joints_between(one, other)), strict(tuple(joints)))
            taken = [{end for joint in lay[1] for end in joint} for lay in known]
            free = [end for end in range(2 * one[0]) if any(end not in ends for ends in taken)]
            self.assertEqual(strict(free_between(one, other)), strict(tuple(free)))

    def test_each_third_lay(self):
        for one, other in FEW[:60] + MORE[::20] + FOUR[:2]:
            known = model_between(one, other)
            for third in model_lays(one[0])[::1 if one[0] < 4 else 11]:
                self.assertIs(lies_between(one, other, third), third in known)
                self.assertEqual(lies_between(one, other, third), is_between(one, third, other))

    def test_lays_between_that_the_document_names(self):
        one, other = (2, ((0, 1),)), (2, ((2, 3),))
        self.assertEqual(between_counts(one, other), (1, 6, 1))
        self.assertEqual(len(all_between(one, other)), 8)
        self.assertEqual(joints_between(one, other), ((0, 1), (0, 2), (0, 3), (1, 2), (1, 3), (2, 3)))
        self.assertEqual(free_between(one, other), (0, 1, 2, 3))
        one, other = (2, ((0, 1), (2, 3))), (2, ((0, 3), (1, 2)))
        self.assertEqual(joints_between(one, other), ((0, 1), (0, 3), (1, 2), (2, 3)))
        self.assertEqual(free_between(one, other), ())
        # the row of an odd piece is 0, 1, 2
        one, other = (2, ((1, 2),)), (2, ((0, 1),))
        self.assertEqual(joints_between(one, other), ((0, 1), (1, 2)))
        self.assertEqual(free_between(one, other), (0, 2, 3))

    def test_the_same_lay_twice(self):
        for lay in [(1, ()), (1, ((0, 1),)), (12, ((0, 23), (3, 4))), some_lay(12, 9, 5)]:
            free = tuple(end for end in range(2 * lay[0]) if all(end not in joint for joint in lay[1]))
            self.assertEqual(all_between(lay, lay), (lay,))
            self.assertEqual(between_counts(lay, lay), (1,))
            self.assertEqual(joints_between(lay, lay), lay[1])
            self.assertEqual(free_between(lay, lay), free)
            self.assertIs(lies_between(lay, lay, lay), True)


class Counts(unittest.TestCase):
    def test_without_an_open_piece_or_a_shut_one(self):
        lots = [lot for lot in model_lots(10) if not {"open", "shut"} <= {kind for kind, _ in lot}]
        for lot in lots[::3] + [lot for lot, _ in PLAIN]:
            one, other = lays_of(lot)
            self.assertEqual(strict(between_counts(one, other)), strict(counts_by_words(lot)))

    def test_about_five_hundred(self):
        for lot, count in PLAIN:
            one, other = lays_of(lot)
            self.assertEqual(sum(between_counts(one, other)), count)
            if count > 500:
                self.assertEqual(tells(all_between, one, other), ("TooGreat", {"most": 500}))
            else:
                self.listed(one, other, count)

    def test_about_five_hundred_with_both(self):
        for lot, count in MIXED:
            one, other = lays_of(lot)
            counts = between_counts(one, other)
            self.assertEqual((sum(counts), counts[0], counts[-1]), (count, 1, 1))
            self.listed(one, other, count)
        for lot in MIXED_GREAT:
            one, other = lays_of(lot)
            for call in (between_counts, all_between):
                self.assertEqual(tells(call, one, other), ("TooGreat", {"most": 500}))

    def listed(self, one, other, count):
        found = all_between(one, other)
        self.assertEqual(found, tuple(sorted(set(found))))
        self.assertEqual(len(found), count)
        self.assertEqual((one in found, other in found), (True, True))
        away = [least_steps(one, lay) for lay in found]
        counts = tuple(away.count(number) for number in range(least_steps(one, other) + 1))
        self.assertEqual(between_counts(one, other), counts)
        self.assertTrue(all(is_between(one, lay, other) for lay in found))


class TwelveLinks(unittest.TestCase):
    def test_joints_and_free_ends(self):
        for one, other in some_pairs(12, 20, 10):
            joints, free = joints_between(one, other), free_between(one, other)
            back = kinds(other, one)
            self.assertEqual(joints, joints_between(other, one))
            self.assertEqual(free, free_between(other, one))
            self.assertEqual(kinds(one, other)[2:], back[:1:-1])
            self.assertLessEqual(set(one[1]) | set(other[1]), set(joints))
            self.assertTrue(all(low < high for low, high in joints))
            for lay in (one, other):
                ends = {end for joint in lay[1] for end in joint}
                self.assertLessEqual(set(range(24)) - ends, set(free))

    def test_third(self):
        for one, other in some_pairs(12, 20, 11):
            self.assertIs(lies_between(one, other, one), True)
            self.assertIs(lies_between(one, other, other), True)
            self.assertIs(lies_between(one, one, other), one == other)


class Refused(unittest.TestCase):
    def test_third(self):
        one, other = (2, ((0, 1),)), (2, ())
        for wrong, place in WRONG_LAYS:
            self.assertEqual(tells(lies_between, one, other, wrong), ("BadLay", {"place": place}))
            self.assertEqual(tells(lies_between, wrong, (3, ()), wrong), ("BadLay", {"place": place}))
            self.assertEqual(tells(lies_between, (3, ()), wrong, None), ("BadLay", {"place": place}))
        self.assertEqual(tells(lies_between, one, other, (3, ())), ("Unlike", {}))
        self.assertEqual(tells(lies_between, one, (3, ()), one), ("Unlike", {}))
        # the errors of one and other, Unlike() among them, stand ahead of those of third
        self.assertEqual(tells(lies_between, one, (3, ()), None), ("Unlike", {}))

    def test_lays_ahead_of_too_many(self):
        one, _ = lays_of((("open", 6), ("shut", 6)))
        for call in (between_counts, all_between, joints_between, free_between):
            self.assertEqual(tells(call, one, (5, ())), ("Unlike", {}))
            for wrong, place in WRONG_LAYS:
                self.assertEqual(tells(call, one, wrong), ("BadLay", {"place": place}))


if __name__ == "__main__":
    unittest.main()
