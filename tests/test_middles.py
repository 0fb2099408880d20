"""doublecut.middles, [45] and [46]."""

import random
import unittest
from collections import Counter
from itertools import chain, combinations

from doublecut.middles import (
    is_middle, joint_counts, kept_lay, least_sum, middle_count, middles, single_sum,
)
from doublecut.single import single_number

from tests.helpers import ODD_VALUES, WRONG_LAYS, model_kept_lays, model_lays, some_lay, spoiled, strict, tells

DRAW = random.Random(45)
ONE_LINK = [(one, other) for one in model_lays(1) for other in model_lays(1)]
SOME = [
    tuple(DRAW.choice(model_kept_lays(links)) for _ in range(many))
    for links, times in ((1, 3), (2, 12), (3, 14)) for many in range(1, 7) for _ in range(times)
] + [tuple(DRAW.choice(model_kept_lays(4)) for _ in range(many)) for many in (2, 2, 2, 3, 4, 6)]
ALIKE = [(lay,) * many for lay in model_lays(2) for many in (1, 2, 5, 6)] + [
    (one, other) * 3 for one in model_lays(2)[::3] for other in model_lays(2)[::2]
]
FEW = ONE_LINK + SOME + ALIKE
GREAT = [tuple(some_lay(12, DRAW.randint(0, 12), DRAW.random()) for _ in range(many)) for many in (1, 2, 3, 4, 5, 6)]


def lay_by(links, *joints):
    return links, tuple(sorted(tuple(sorted(joint)) for joint in joints))


def rows_of(links, *rows):
    """Two lays that have the joints of each next two ends of these rows by turns."""
    joints = [list(zip(row, row[1:])) for row in rows]
    firsts = chain(*[found[::2] for found in joints])
    return lay_by(links, *firsts), lay_by(links, *chain(*[found[1::2] for found in joints]))


def sum_by_words(several, lay):
    return sum(len(set(lay[1]) ^ set(other[1])) for other in several)


def middles_by_words(several):
    sums = [(sum_by_words(several, lay), lay) for lay in model_kept_lays(several[0][0])]
    least = min(sums)[0]
    return least, [lay for found, lay in sums if found == least]


def kept_by_words(several):
    counts = Counter(joint for lay in several for joint in lay[1])
    return several[0][0], tuple(sorted(joint for joint in counts if counts[joint] > len(several) / 2))


class Counts(unittest.TestCase):
    def test_each_joint(self):
        for several in FEW + GREAT:
            counts = Counter(joint for lay in several for joint in lay[1])
            self.assertEqual(strict(joint_counts(several)), strict(tuple(sorted(counts.items()))))

    def test_kept_lays(self):
        for several in FEW + GREAT:
            self.assertEqual(strict(kept_lay(several)), strict(kept_by_words(several)))

    def test_what_the_document_tells(self):
        one, other, third = (2, ((0, 1),)), (2, ((0, 1), (2, 3))), (2, ((0, 2),))
        self.assertEqual(joint_counts((one, other, third)), (((0, 1), 2), ((0, 2), 1), ((2, 3), 1)))
        self.assertEqual(joint_counts(((2, ()),) * 6), ())
        self.assertEqual(kept_lay((one, other, third)), (2, ((0, 1),)))
        # half of them is not more than half
        self.assertEqual(kept_lay((one, third)), (2, ()))
        self.assertEqual(kept_lay((one, one, third, third)), (2, ()))
        self.assertEqual(kept_lay((one, other, one, third)), (2, ((0, 1),)))


class Sums(unittest.TestCase):
    def test_each_lay(self):
        for several in FEW:
            for lay in model_kept_lays(several[0][0])[::5]:
                self.assertEqual(strict(single_sum(several, lay)), strict(sum_by_words(several, lay)))
        for several in GREAT:
            lay = some_lay(12, 7, 9)
            self.assertEqual(single_sum(several, lay), sum(single_number(lay, other) for other in several))

    def test_least_sums(self):
        for several in FEW:
            self.assertEqual(strict(least_sum(several)), strict(middles_by_words(several)[0]))

    def test_no_lay_has_less(self):
        for several in GREAT:
            for lay in several:
                self.assertLessEqual(least_sum(several), single_sum(several, lay))
            self.assertEqual(least_sum(several), single_sum(several, kept_lay(several)))
        self.assertEqual(least_sum(GREAT[0]), 0)


class Middles(unittest.TestCase):
    def test_by_going_through_all_lays(self):
        for several in FEW:
            _, known = middles_by_words(several)
            self.assertEqual(strict(middles(several)), strict(tuple(known)))
            self.assertEqual(strict(middle_count(several)), strict(len(known)))
            for lay in model_kept_lays(several[0][0])[::3]:
                self.assertIs(is_middle(several, lay), lay in known)

    def test_an_odd_number_has_one(self):
        for several in FEW + GREAT:
            if len(several) % 2:
                self.assertEqual(middles(several), (kept_lay(several),))

    def test_they_are_there_again_in_another_order_of_the_lays(self):
        for several in SOME[::5]:
            self.assertEqual(middles(several[::-1]), middles(several))

    def test_rows_of_joints(self):
        for many in range(24):
            several = rows_of(12, range(many + 1))
            counts = [1, 2]
            while len(counts) <= many:
                counts.append(counts[-1] + counts[-2])
            self.assertEqual(middle_count(several), counts[many], many)
            if counts[many] <= 500:
                found = middles(several)
                self.assertEqual((len(found), list(found)), (counts[many], sorted(set(found))))
                self.assertTrue(all(is_middle(several, lay) for lay in found))

    def test_rings_of_joints(self):
        counts = {4: 7, 6: 18, 8: 47, 10: 123, 12: 322, 14: 843, 24: 103682}
        for many, count in counts.items():
            several = rows_of(12, [*range(many), 0])
            self.assertEqual(middle_count(several), count)
            if count <= 500:
                found = middles(several)
                self.assertEqual((len(found), list(found)), (count, sorted(set(found))))
                self.assertTrue(all(is_middle(several, lay) for lay in found))
            # a joint of both lays, or of none, changes nothing
            if many < 22:
                more = tuple((12, tuple(sorted([*lay[1], (22, 23)]))) for lay in several)
                self.assertEqual(middle_count(more), count)

    def test_half_of_four_and_of_six(self):
        one, other = rows_of(4, [0, 1, 2, 3, 0], [4, 5, 6])
        for several in ((one, one, other, other), (one, other) * 3, (one, other, other, one)):
            self.assertEqual(middle_count(several), 7 * 3)
            self.assertEqual(middles(several), middles((one, other)))
            self.assertEqual(list(middles(several)), middles_by_words(several)[1])
        # (0, 1) in the first half, (2, 3) in each second one, (4, 5) in one half more: three rows of one joint
        four = (lay_by(4, (0, 1), (2, 3)), lay_by(4, (0, 1), (4, 5)), lay_by(4, (2, 3), (4, 5)), (4, ()))
        self.assertEqual(middle_count(four), 8)
        self.assertEqual(list(middles(four)), middles_by_words(four)[1])
        # a row of two lots of lays: (0, 1) in one half of them, (1, 2) in the other one, joints of one lay beside
        row = (lay_by(4, (0, 1), (4, 7)), lay_by(4, (0, 1)), lay_by(4, (1, 2), (5, 6)), lay_by(4, (1, 2)))
        self.assertEqual(middles(row), ((4, ()), (4, ((0, 1),)), (4, ((1, 2),))))

    def test_five_hundred_and_more(self):
        several = rows_of(12, [0, 1], [2, 3], [4, 5, 6, 7], [8, 9, 10, 11], [12, 13, 14, 15])
        self.assertEqual(middle_count(several), 500)
        found = middles(several)
        self.assertEqual((len(found), list(found)), (500, sorted(set(found))))
        self.assertTrue(all(is_middle(several, lay) for lay in found))
        for rows, count in (([[2 * at, 2 * at + 1] for at in range(9)], 512), ([range(13), [14, 15, 16]], 1131),
                            ([[0, 1, 2, 3, 0], [4, 5, 6, 7, 4], [8, 9, 10, 11, 8], [12, 13]], 686)):
            several = rows_of(12, *rows)
            self.assertEqual(middle_count(several), count)
            self.assertEqual(tells(middles, several), ("TooGreat", {"most": 500}))

    def test_a_perfect_pairing_against_nothing(self):
        whole = lay_by(12, *[(end, end + 12) for end in range(12)])
        self.assertEqual(middle_count((whole, (12, ()))), 4096)
        self.assertEqual(tells(middles, (whole, (12, ()))), ("TooGreat", {"most": 500}))
        self.assertEqual(middles((whole,)), (whole,))

    def test_facts(self):
        for several in FEW:
            kept = kept_lay(several)
            half = {joint for joint, count in joint_counts(several) if 2 * count == len(several)}
            for lay in middles(several):
                self.assertLessEqual(set(kept[1]), set(lay[1]))
                self.assertLessEqual(set(lay[1]) - set(kept[1]), half)
            for joint, other in combinations(kept[1], 2):
                self.assertFalse(set(joint) & set(other))


class Refused(unittest.TestCase):
    LAY = (2, ((0, 1),))

    def test_several(self):
        calls = [(call, []) for call in (joint_counts, kept_lay, least_sum, middle_count, middles)]
        for call, rest in calls + [(single_sum, [None]), (is_middle, [None])]:
            for value in ODD_VALUES:
                place = 0 if isinstance(value, tuple) and value else None
                self.assertEqual(tells(call, value, *rest), ("BadSeveral", {"place": place}))
            self.assertEqual(tells(call, (self.LAY,) * 7, *rest), ("BadSeveral", {"place": None}))
            for wrong, _ in WRONG_LAYS:
                for place in range(3):
                    several = (self.LAY,) * place + (wrong, (3, ()))
                    self.assertEqual(tells(call, several, *rest), ("BadSeveral", {"place": place}))
            self.assertEqual(tells(call, (self.LAY, self.LAY, (3, ())), *rest), ("Unlike", {}))

    def test_a_lay_beside_several(self):
        for call in (single_sum, is_middle):
            for wrong, place in WRONG_LAYS:
                self.assertEqual(tells(call, (self.LAY,), wrong), ("BadLay", {"place": place}))
            for lay in ((1, ()), (3, ()), (12, ((0, 1),))):
                self.assertEqual(tells(call, (self.LAY, self.LAY), lay), ("Unlike", {}))
            for value in spoiled(self.LAY):
                found = tells(call, (self.LAY,), value)[0]
                self.assertIn(found, ("value", "BadLay", "Unlike"), value)

    def test_nothing_is_changed(self):
        several = (self.LAY, (2, ((0, 2),)))
        self.assertEqual(middles(several), middles(several))
        self.assertEqual(several, (self.LAY, (2, ((0, 2),))))


if __name__ == "__main__":
    unittest.main()
