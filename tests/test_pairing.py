"""doublecut.pairing, [50] and [53]."""

import random
import unittest

from doublecut.pairing import (
    count_greatest, count_middles, greatest_lay, greatest_worth, middle_of, possible_joints, sure_frees, sure_joints,
)
from doublecut.worths import common, worth_of, worths_of

from tests.helpers import ODD_VALUES, model_joints, model_kept_lays, model_lays, some_lay, strict, tells
from tests.test_worths import drawn_worths, worth_by_words

DRAW = random.Random(53)
CALLS = (count_greatest, greatest_lay, greatest_worth, possible_joints, sure_frees, sure_joints)
SOME = [
    drawn_worths(links, DRAW, most, free) for links, times in ((1, 4), (2, 10), (3, 10), (4, 2))
    for most, free in ((1, 0), (24, 0), (3, 1), (24, 8), (2, 2), (24, 24)) for _ in range(times)
] + [((0,) * ends, ()) for ends in (2, 4, 6, 8)] + [((3,) * ends, ()) for ends in (2, 4, 6)]


def greatest_by_words(worths):
    found = [(worth_by_words(worths, lay), lay) for lay in model_kept_lays(len(worths[0]) // 2)]
    most = max(worth for worth, _ in found)
    return most, [lay for worth, lay in found if worth == most]


def free_of(lay):
    return set(range(2 * lay[0])) - {end for joint in lay[1] for end in joint}


class Greatest(unittest.TestCase):
    def test_by_going_through_all_lays(self):
        for worths in SOME:
            most, lays = greatest_by_words(worths)
            self.assertEqual(strict(greatest_worth(worths)), strict(most))
            self.assertEqual(strict(greatest_lay(worths)), strict(min(lays, key=lambda lay: lay[1])))
            self.assertEqual(strict(count_greatest(worths)), strict(len(lays)))
            joints = [set(lay[1]) for lay in lays]
            self.assertEqual(strict(sure_joints(worths)), strict(tuple(sorted(set.intersection(*joints)))))
            self.assertEqual(strict(possible_joints(worths)), strict(tuple(sorted(set.union(*joints)))))
            frees = set.intersection(*[free_of(lay) for lay in lays])
            self.assertEqual(strict(sure_frees(worths)), strict(tuple(sorted(frees))))

    def test_no_pairs_at_all(self):
        for ends in range(2, 13, 2):
            # a joint is worth as little as free ends that are worth nothing
            nothing = (0,) * ends, ()
            self.assertEqual(greatest_worth(nothing), 0)
            self.assertEqual(greatest_lay(nothing), (ends // 2, ()))
            self.assertEqual(count_greatest(nothing), len(COUNTS[ends // 2]) if ends < 10 else LATER[ends])
            self.assertEqual(len(possible_joints(nothing)), ends * (ends - 1) // 2)
            self.assertEqual((sure_joints(nothing), sure_frees(nothing)), ((), ()))
            free = (24,) * ends, ()
            self.assertEqual((greatest_worth(free), count_greatest(free)), (24 * ends, 1))
            self.assertEqual((possible_joints(free), sure_frees(free)), ((), tuple(range(ends))))

    def test_what_the_document_tells(self):
        worths = (0, 0, 1, 0), ((0, 1, 24), (1, 2, 24), (2, 3, 2))
        self.assertEqual(greatest_worth(worths), 26)
        self.assertEqual(greatest_lay(worths), (2, ((0, 1), (2, 3))))
        self.assertEqual((count_greatest(worths), sure_joints(worths)), (1, ((0, 1), (2, 3))))
        even = (0, 0, 0, 0), ((0, 1, 5), (0, 2, 5), (1, 3, 5), (2, 3, 5))
        self.assertEqual((greatest_worth(even), count_greatest(even)), (10, 2))
        self.assertEqual(greatest_lay(even), (2, ((0, 1), (2, 3))))
        self.assertEqual((sure_joints(even), possible_joints(even)), ((), ((0, 1), (0, 2), (1, 3), (2, 3))))
        # the least one by its joints is not always that with the least joints at all
        last = (0, 0, 0, 0), ((2, 3, 1),)
        self.assertEqual(greatest_lay(last), (2, ((0, 1), (2, 3))))
        self.assertEqual(count_greatest(last), 2)
        free = (1, 0, 0, 1), ((1, 2, 7),)
        self.assertEqual((greatest_lay(free), sure_frees(free)), ((2, ((1, 2),)), (0, 3)))
        self.assertEqual(greatest_lay(((1, 1), ((0, 1, 2),))), (1, ()))
        self.assertEqual(count_greatest(((1, 1), ((0, 1, 2),))), 2)

    def test_six_links(self):
        lays = [(6, tuple(sorted(joints))) for joints in model_joints(list(range(12)))]
        self.assertEqual(len(lays), LATER[12])
        worths = drawn_worths(6, random.Random(7), 3, 1)
        found = [(worth_by_words(worths, lay), lay) for lay in lays]
        most = max(worth for worth, _ in found)
        known = [lay for worth, lay in found if worth == most]
        self.assertEqual((greatest_worth(worths), count_greatest(worths)), (most, len(known)))
        self.assertEqual(greatest_lay(worths), min(known))
        joints = [set(lay[1]) for lay in known]
        self.assertEqual(sure_joints(worths), tuple(sorted(set.intersection(*joints))))
        self.assertEqual(possible_joints(worths), tuple(sorted(set.union(*joints))))
        self.assertEqual(sure_frees(worths), tuple(sorted(set.intersection(*[free_of(lay) for lay in known]))))

    def test_many_of_six_links(self):
        for most, free in ((24, 0), (24, 12), (2, 1)):
            for _ in range(4):
                worths = drawn_worths(6, DRAW, most, free)
                lay = greatest_lay(worths)
                self.assertEqual(worth_of(worths, lay), greatest_worth(worths))
                self.assertLessEqual(set(sure_joints(worths)), set(lay[1]))
                self.assertLessEqual(set(lay[1]), set(possible_joints(worths)))
                self.assertLessEqual(set(sure_frees(worths)), free_of(lay))
                for seed in range(40):
                    other = some_lay(6, seed % 7, seed)
                    self.assertLessEqual(worth_of(worths, other), greatest_worth(worths))

    def test_wrong_worths(self):
        for call in CALLS:
            for value in ODD_VALUES:
                place = (0,) if isinstance(value, tuple) and len(value) == 2 else ()
                self.assertEqual(tells(call, value), ("BadWorths", {"place": place}))
            for value, place in ((((0,) * 14, ()), (0,)), (((0, 25), ()), (0,)), (((0, 0), []), (1,)),
                                 (((0, 0), ((0, 1, 25),)), (1, 0)), (((0, 0), ((0, 1, 1), (0, 1, 1))), (1, 1))):
                self.assertEqual(tells(call, value), ("BadWorths", {"place": place}))


COUNTS = {links: model_kept_lays(links) for links in (1, 2, 3, 4)}
# in how many ways some of so many ends can be joined
LATER = {10: 9496, 12: 140152}


class KeptMiddles(unittest.TestCase):
    def test_by_going_through_all_lays(self):
        for links in (1, 2, 3):
            for many in range(1, 7):
                for _ in range(3):
                    several = tuple(DRAW.choice(model_kept_lays(links)) for _ in range(many))
                    sums = [(sum(common(lay, other) for other in several), lay) for lay in model_lays(links)]
                    most = max(sums)[0]
                    known = [lay for found, lay in sums if found == most]
                    self.assertEqual(strict(middle_of(several)), strict(min(known)))
                    self.assertEqual(strict(count_middles(several)), strict(len(known)))
                    self.assertEqual(greatest_worth(worths_of(several)), most)

    def test_one_lay_is_its_own(self):
        for joints in range(7):
            lay = some_lay(6, joints, joints)
            for many in (1, 2, 6):
                self.assertEqual((middle_of((lay,) * many), count_middles((lay,) * many)), (lay, 1))

    def test_six_links_and_seven(self):
        for call in (middle_of, count_middles):
            self.assertEqual(tells(call, ((6, ()), (6, ((0, 11),))))[0], "value")
            for links in (7, 12):
                several = (links, ()), (links, ((0, 1),))
                self.assertEqual(tells(call, several), ("TooGreat", {"most": 6}))
                self.assertEqual(tells(call, several + ((6, ()),)), ("Unlike", {}))
                self.assertEqual(tells(call, several + ((6, [])),), ("BadSeveral", {"place": 2}))
            for value in ODD_VALUES:
                place = 0 if isinstance(value, tuple) and value else None
                self.assertEqual(tells(call, value), ("BadSeveral", {"place": place}))
            self.assertEqual(tells(call, ((1, ()),) * 7), ("BadSeveral", {"place": None}))


if __name__ == "__main__":
    unittest.main()
