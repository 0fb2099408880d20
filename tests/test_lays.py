"""doublecut.lays, [10] and [12]."""

import unittest
from itertools import permutations, product

from doublecut.lays import (
    beside, free_ends, is_lay, mate_of, need_lay, need_several, need_two, renamed, without,
)

from tests.helpers import ODD_VALUES, WRONG_LAYS, model_lays, some_lay, spoiled, strict, tells, truth_values

ALL_LAYS = {links: model_lays(links) for links in (1, 2, 3)}
KNOWN = {strict(lay) for links in ALL_LAYS for lay in ALL_LAYS[links]}
FULL = (12, tuple((2 * link, 2 * link + 1) for link in range(12)))


class Lays(unittest.TestCase):
    def test_all_small_lays_are_lays(self):
        for links in ALL_LAYS:
            for lay in ALL_LAYS[links]:
                self.assertIs(is_lay(lay), True)
                self.assertIs(need_lay(lay), lay)

    def test_lays_of_twelve_links(self):
        for lay in ((12, ()), FULL, some_lay(12, 12, 3), some_lay(12, 7, 4)):
            self.assertIs(is_lay(lay), True)
            self.assertIs(need_lay(lay), lay)

    def test_wrong_lays_and_their_places(self):
        for lay, place in WRONG_LAYS:
            self.assertIs(is_lay(lay), False, lay)
            self.assertEqual(tells(need_lay, lay), ("BadLay", {"place": place}), lay)

    def test_is_lay_tells_what_the_plain_model_tells(self):
        for links in (1, 2):
            for lay in ALL_LAYS[links]:
                for value in list(spoiled(lay)) + truth_values(lay):
                    if isinstance(value, tuple) and value and isinstance(value[0], int) and value[0] > 3:
                        continue
                    self.assertIs(is_lay(value), strict(value) in KNOWN, value)

    def test_several(self):
        one, other = (2, ()), (2, ((0, 3),))
        for many in range(1, 7):
            several = (one, other, one, other, one, one)[:many]
            self.assertIs(need_several(several), several)
        for value in [None, True, 3, "", b"", [], [one], (), (one,) * 7, {0: one}, (None,) * 7]:
            self.assertEqual(tells(need_several, value), ("BadSeveral", {"place": None}), value)
        for lay, _ in WRONG_LAYS:
            self.assertEqual(tells(need_several, (lay,)), ("BadSeveral", {"place": 0}))
            self.assertEqual(tells(need_several, (one, (3, ()), lay, None)), ("BadSeveral", {"place": 2}))
        self.assertEqual(tells(need_several, (one, other, (3, ()))), ("Unlike", {}))
        self.assertEqual(tells(need_several, ((3, ()), one)), ("Unlike", {}))

    def test_two(self):
        one, other = (2, ()), (2, ((0, 3),))
        found = need_two(one, other)
        self.assertIsInstance(found, tuple)
        self.assertIs(found[0], one)
        self.assertIs(found[1], other)
        self.assertEqual(tells(need_two, one, (3, ())), ("Unlike", {}))

    def test_mates_and_free_ends(self):
        for links in ALL_LAYS:
            for lay in ALL_LAYS[links]:
                free = []
                for end in range(2 * links):
                    found = [pair for pair in lay[1] if end in pair]
                    if found:
                        self.assertEqual([mate_of(lay, end)], [other for other in found[0] if other != end])
                    else:
                        self.assertIsNone(mate_of(lay, end))
                        free.append(end)
                self.assertEqual(strict(free_ends(lay)), strict(tuple(free)))
        self.assertEqual(free_ends((12, ())), tuple(range(24)))
        self.assertEqual(free_ends(FULL), ())
        self.assertEqual(mate_of(FULL, 23), 22)

    def test_wrong_ends(self):
        lay = (2, ((0, 3),))
        for end in ODD_VALUES + [4, -1, (1,), "1"]:
            if strict(end) not in ("0", "1", "2", "3"):
                self.assertEqual(tells(mate_of, lay, end), ("BadEnd", {"value": end}))


class Renamed(unittest.TestCase):
    def model(self, lay, order):
        names = {}
        for link, told in enumerate(order):
            ends = [2 * abs(told) - 2, 2 * abs(told) - 1]
            names[2 * link], names[2 * link + 1] = ends if told > 0 else ends[::-1]
        return lay[0], tuple(sorted(tuple(sorted(names[end] for end in joint)) for joint in lay[1]))

    def test_all_orders_of_small_lays(self):
        for links in ALL_LAYS:
            for order in permutations(range(1, links + 1)):
                for signs in product((1, -1), repeat=links):
                    signed = tuple(sign * told for sign, told in zip(signs, order))
                    for lay in ALL_LAYS[links]:
                        self.assertEqual(strict(renamed(lay, signed)), strict(self.model(lay, signed)))

    def test_the_words_of_the_document(self):
        # link 0 becomes link 1, turned: its near end 0 is the far end 3 there
        self.assertEqual(renamed((2, ((0, 2),)), (-2, 1)), (2, ((0, 3),)))
        self.assertEqual(renamed((1, ((0, 1),)), (-1,)), (1, ((0, 1),)))

    def test_twelve_links(self):
        lay = some_lay(12, 9, 5)
        order = (-12, 3, 1, -2, 4, 5, -7, 6, 11, 10, -9, 8)
        self.assertEqual(renamed(lay, order), self.model(lay, order))
        self.assertEqual(renamed(lay, tuple(range(1, 13))), lay)

    def test_wrong_orders(self):
        lay = (2, ((0, 3),))
        wrong = ODD_VALUES + [
            (1,), (1, 2, 3), (1, 1), (1, -1), (0, 1), (1, 3), (2, 0), [1, 2], [2, 1], (True, 2), (2, True), (1, None),
            ("1", "2"), "12", b"\x01\x02", ((1,), 2), (-3, 1), (10 ** 999, 1), {1: 2},
        ]
        for order in wrong:
            self.assertEqual(tells(renamed, lay, order), ("BadNumber", {"value": order}), order)


class Without(unittest.TestCase):
    def model(self, lay, link):
        gone = (2 * link, 2 * link + 1)
        mates = {end: mate for pair in lay[1] for end, mate in (pair, pair[::-1])}
        pairs = [pair for pair in lay[1] if pair[0] not in gone and pair[1] not in gone]
        outside = [mates[end] for end in gone if end in mates and mates[end] not in gone]
        if len(outside) == 2:
            pairs.append(tuple(sorted(outside)))
        left = [end for end in range(2 * lay[0]) if end not in gone]
        return lay[0] - 1, tuple(sorted(tuple(left.index(end) for end in pair) for pair in pairs))

    def test_small_lays(self):
        for links in (2, 3):
            for lay in ALL_LAYS[links]:
                for link in range(links):
                    self.assertEqual(strict(without(lay, link)), strict(self.model(lay, link)))

    def test_the_words_of_the_document(self):
        self.assertEqual(without((2, ((0, 1),)), 0), (1, ()))
        self.assertEqual(without((3, ((0, 2), (3, 5))), 1), (2, ((0, 3),)))
        self.assertEqual(without((2, ((0, 2), (1, 3))), 1), (1, ((0, 1),)))
        self.assertEqual(without((2, ((0, 2),)), 0), (1, ()))

    def test_twelve_links(self):
        lay = some_lay(12, 11, 6)
        for link in range(12):
            self.assertEqual(without(lay, link), self.model(lay, link))

    def test_wrong_links(self):
        lay = (3, ((0, 2), (3, 5)))
        for link in ODD_VALUES + [3, "1", (1,)]:
            if strict(link) not in ("0", "1", "2"):
                self.assertEqual(tells(without, lay, link), ("BadLink", {"value": link}))

    def test_no_other_link(self):
        for lay in ALL_LAYS[1]:
            for link in ODD_VALUES:
                self.assertEqual(tells(without, lay, link), ("BadLink", {"value": link}))


class Beside(unittest.TestCase):
    def test_small_lays(self):
        for one in ALL_LAYS[2]:
            for other in ALL_LAYS[1] + ALL_LAYS[2]:
                links, joints = beside(one, other)
                self.assertEqual(links, 2 + other[0])
                self.assertEqual(joints, tuple(sorted(one[1] + tuple((a + 4, b + 4) for a, b in other[1]))))
                self.assertTrue(is_lay((links, joints)))

    def test_twelve_and_more(self):
        self.assertEqual(beside((6, ((0, 11),)), (6, ((0, 11),))), (12, ((0, 11), (12, 23))))
        self.assertEqual(beside((11, ()), (1, ((0, 1),))), (12, ((22, 23),)))
        for one, other in (((12, ()), (1, ())), ((1, ()), (12, ())), ((7, ()), (6, ())), ((12, ()), (12, ()))):
            self.assertEqual(tells(beside, one, other), ("TooGreat", {"most": 12}))

    def test_bad_lays_ahead_of_too_great(self):
        self.assertEqual(tells(beside, (12, ()), (13, ())), ("BadLay", {"place": (0,)}))
        self.assertEqual(tells(beside, (1, None), (13, ())), ("BadLay", {"place": (1,)}))


if __name__ == "__main__":
    unittest.main()
