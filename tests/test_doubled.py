"""doublecut.doubled, [37] and [38]."""

import random
import unittest
from itertools import product

from doublecut.chains import chains_of
from doublecut.doubled import count_doublings, doubling_at, doublings, half, is_doubling, is_perfect, twice

from tests.helpers import ODD_VALUES, WRONG_LAYS, model_lays, some_lay, spoiled, strict, tells, truth_values

PAIRED = (count_doublings, doublings, twice)
SINGLES = [lay for links in (1, 2, 3) for lay in model_lays(links)]


def twin_by_words(end, links):
    """The twin of an end of a doubled lay: that of the same side of the link that is half as many further or back."""
    link, side = end // 2, end % 2
    return 2 * ((link + links // 2) % links) + side


def is_perfect_by_words(lay):
    links, joints = lay
    for low, high in joints:
        turned = tuple(sorted((twin_by_words(low, links), twin_by_words(high, links))))
        if turned == (low, high) or turned not in joints:
            return False
    return True


def half_by_words(lay):
    """The half, by asking each two ends of it."""
    links, joints = lay
    small = links // 2

    def joined(one, other):
        return tuple(sorted((one, other))) in joints

    found = []
    for one in range(2 * small):
        for other in range(one + 1, 2 * small):
            if joined(one, other) or joined(one, twin_by_words(other, links)):
                found.append((one, other))
    return small, tuple(found)


def doublings_by_words(lay):
    """The lays that double one, by choosing for each joint."""
    links, joints = lay
    found = []
    for crossed in product((False, True), repeat=len(joints)):
        made = []
        for turned, (low, high) in zip(crossed, joints):
            far, near = twin_by_words(high, 2 * links), twin_by_words(low, 2 * links)
            made.extend([(low, far), (high, near)] if turned else [(low, high), (near, far)])
        found.append((2 * links, tuple(sorted(tuple(sorted(joint)) for joint in made))))
    return sorted(found)


class Perfect(unittest.TestCase):
    def test_lays_of_two_and_four_links(self):
        perfect = 0
        for links in (2, 4):
            for lay in model_lays(links):
                wanted = is_perfect_by_words(lay)
                self.assertIs(is_perfect(lay), wanted)
                perfect += wanted
                if wanted:
                    self.assertEqual(strict(half(lay)), strict(half_by_words(lay)))
                else:
                    self.assertEqual(tells(half, lay), ("BadLay", {"place": (1,)}))
        # 2 ** J for each lay of one link and of two
        self.assertEqual(perfect, 1 + 2 + 1 + 6 * 2 + 3 * 4)

    def test_greater_lays(self):
        for seed in range(60):
            single = some_lay(6, seed % 7, seed)
            lay = random.Random(seed).choice(doublings_by_words(single))
            self.assertIs(is_perfect(lay), True)
            self.assertEqual(half(lay), single)
            for links in (6, 8, 10, 12):
                lay = some_lay(links, seed % (links + 1), seed)
                self.assertIs(is_perfect(lay), is_perfect_by_words(lay))

    def test_what_the_document_tells(self):
        for lay, perfect in (
            ((2, ()), True), ((2, ((0, 1),)), False), ((2, ((0, 1), (2, 3))), True), ((2, ((0, 3), (1, 2))), True),
            ((2, ((0, 2),)), False), ((2, ((0, 2), (1, 3))), False), ((2, ((1, 2),)), False), ((12, ()), True),
            ((4, ((0, 4), (1, 5), (2, 6), (3, 7))), False), ((4, ((1, 2), (5, 6))), True),
            ((4, ((0, 7), (3, 4))), True), ((4, ((0, 7), (3, 5))), False),
        ):
            self.assertIs(is_perfect(lay), perfect, lay)
        # a ring is there twice, or once and twice as long
        self.assertEqual(half((2, ((0, 1), (2, 3)))), (1, ((0, 1),)))
        self.assertEqual(half((2, ((0, 3), (1, 2)))), (1, ((0, 1),)))
        rings = [chains_of(lay)[1] for lay in doublings((1, ((0, 1),)))]
        self.assertEqual(rings, [((1,), (2,)), ((2, 1),)])


class Doublings(unittest.TestCase):
    def test_all_of_them(self):
        for lay in SINGLES + [some_lay(links, joints, links) for links in (4, 5, 6) for joints in range(links + 1)]:
            known = doublings_by_words(lay)
            self.assertEqual(strict(doublings(lay)), strict(tuple(known)))
            self.assertEqual(strict(count_doublings(lay)), strict(len(known)))
            for number, other in enumerate(known):
                self.assertEqual(strict(doubling_at(lay, number)), strict(other))
                self.assertIs(is_doubling(lay, other), True)
                self.assertEqual(half(other), lay)
            for beyond in (len(known), -1, -len(known), 10 ** 999):
                self.assertEqual(tells(doubling_at, lay, beyond), ("BadNumber", {"value": beyond}))

    def test_just_the_perfect_lays_with_this_half(self):
        for lay in model_lays(2):
            found = [other for other in model_lays(4) if is_perfect_by_words(other) and half_by_words(other) == lay]
            self.assertEqual(doublings(lay), tuple(found))
            for other in model_lays(4) + model_lays(2) + model_lays(3)[::5]:
                self.assertIs(is_doubling(lay, other), other in found)

    def test_twice(self):
        for lay in SINGLES + [some_lay(6, joints, joints) for joints in range(7)]:
            links, joints = lay
            both = joints + tuple((low + 2 * links, high + 2 * links) for low, high in joints)
            self.assertEqual(strict(twice(lay)), strict((2 * links, both)))
            self.assertIn(twice(lay), doublings(lay))
        self.assertEqual(twice((2, ((0, 1), (2, 3)))), (4, ((0, 1), (2, 3), (4, 5), (6, 7))))

    def test_a_lay_without_joints(self):
        for links in range(1, 7):
            self.assertEqual(doublings((links, ())), ((2 * links, ()),))
            self.assertEqual(count_doublings((links, ())), 1)
            self.assertEqual(doubling_at((links, ()), 0), (2 * links, ()))
            self.assertEqual(tells(doubling_at, (links, ()), 1), ("BadNumber", {"value": 1}))
            self.assertEqual(twice((links, ())), (2 * links, ()))

    def test_wrong_numbers(self):
        lay = (3, ((0, 1), (2, 3)))
        for value in ODD_VALUES + [4, "3", (0,)]:
            if strict(value) not in ("0", "1", "2"):
                self.assertEqual(strict(tells(doubling_at, lay, value)), strict(("BadNumber", {"value": value})))

    def test_any_value(self):
        lay = (1, ((0, 1),))
        known = [strict(other) for other in doublings_by_words(lay)]
        for value in ODD_VALUES + [value for value, _ in WRONG_LAYS] + [list(doublings(lay)), doublings(lay)]:
            self.assertIs(is_doubling(lay, value), False)
        for other in doublings_by_words(lay):
            for value in list(spoiled(other)) + truth_values(other):
                self.assertIs(is_doubling(lay, value), strict(value) in known, value)


class Refused(unittest.TestCase):
    def test_no_lays(self):
        calls = [(is_perfect, []), (half, []), (doubling_at, [None]), (is_doubling, [None])]
        for call, rest in calls + [(call, []) for call in PAIRED]:
            for wrong, place in WRONG_LAYS:
                self.assertEqual(tells(call, wrong, *rest), ("BadLay", {"place": place}), wrong)

    def test_an_odd_number_of_links(self):
        for links in (1, 3, 5, 7, 9, 11):
            for joints in ((), ((0, 1),)):
                self.assertEqual(tells(is_perfect, (links, joints)), ("BadLay", {"place": (0,)}))
                self.assertEqual(tells(half, (links, joints)), ("BadLay", {"place": (0,)}))
        for links in (2, 4, 6, 8, 10, 12):
            self.assertIs(is_perfect((links, ())), True)
            self.assertEqual(half((links, ())), (links // 2, ()))
            self.assertEqual(tells(half, (links, ((0, 1),))), ("BadLay", {"place": (1,)}))

    def test_more_than_six_links(self):
        calls = [(doubling_at, [0]), (doubling_at, [None]), (is_doubling, [None])] + [(call, []) for call in PAIRED]
        for call, rest in calls:
            for links in range(7, 13):
                self.assertEqual(tells(call, (links, ((0, 1),)), *rest), ("BadLay", {"place": (0,)}))
            self.assertNotEqual(tells(call, (6, ()), *rest)[0], "BadLay")


if __name__ == "__main__":
    unittest.main()
