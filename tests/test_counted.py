"""doublecut.counted, [15] and [16]."""

import unittest

from doublecut.chains import count_chains
from doublecut.counted import (
    all_lays, count_histories, count_lays, count_steps, count_with, lay_by_number, lay_number,
)
from doublecut.steps import all_steps, lay_behind

from tests.helpers import ODD_VALUES, model_lays, some_lay, strict, tells

ALL_LAYS = {links: model_lays(links) for links in (1, 2, 3, 4)}
# in how many ways some of 2, 4, .. 24 things can be paired
PAIRINGS = [2, 10, 76, 764, 9496, 140152, 2390480, 46206736, 997313824, 23758664096, 618884638912, 17492190577600]
WRONG_LINKS = [value for value in ODD_VALUES + [0, 13, "1"] if strict(value) not in ("1", "2")]
WRONG_MANY = [value for value in ODD_VALUES + [-1, 61] if strict(value) not in ("0", "1", "2", "13")]


class Counted(unittest.TestCase):
    def test_count_lays(self):
        self.assertEqual([count_lays(links) for links in range(1, 13)], PAIRINGS)
        for links in ALL_LAYS:
            self.assertEqual(count_lays(links), len(ALL_LAYS[links]))

    def test_count_with(self):
        for links in ALL_LAYS:
            found = [count_chains(lay) for lay in ALL_LAYS[links]]
            for lines in range(13):
                for rings in range(13):
                    self.assertEqual(count_with(links, lines, rings), found.count((lines, rings)))

    def test_count_with_of_more_links(self):
        for links in range(5, 13):
            counts = [count_with(links, lines, rings) for lines in range(13) for rings in range(13)]
            self.assertEqual(sum(counts), PAIRINGS[links - 1])
            self.assertEqual(count_with(links, links, 0), 1)
            self.assertEqual(count_with(links, 0, links), 1)
            self.assertEqual(count_with(links, 0, 0), 0)
        # one line of 12 links: all orders, each link turned or not, read from either side
        self.assertEqual(count_with(12, 1, 0), 479001600 * 2 ** 12 // 2)
        self.assertEqual(count_with(12, 0, 1), 479001600 // 12 * 2 ** 12 // 2)

    def test_a_lay_has_as_many_lines_as_links_less_joints(self):
        for links in ALL_LAYS:
            for lay in ALL_LAYS[links]:
                self.assertEqual(count_chains(lay)[0], links - len(lay[1]))

    def test_all_lays(self):
        for links in ALL_LAYS:
            self.assertEqual(strict(all_lays(links)), strict(tuple(ALL_LAYS[links])))

    def test_all_lays_of_more_links(self):
        for links in range(5, 13):
            self.assertEqual(tells(all_lays, links), ("TooGreat", {"most": 1000}))
        for links in WRONG_LINKS:
            self.assertEqual(tells(all_lays, links), ("BadNumber", {"value": links}))


class Numbers(unittest.TestCase):
    def test_small_lays(self):
        for links in ALL_LAYS:
            for number, lay in enumerate(ALL_LAYS[links]):
                self.assertEqual(strict(lay_number(lay)), strict(number))
                self.assertEqual(strict(lay_by_number(links, number)), strict(lay))

    def test_lays_of_five_links_ascend(self):
        lays = [lay_by_number(5, number) for number in range(9496)]
        self.assertEqual(lays, sorted(set(lays)))
        self.assertEqual([lay_number(lay) for lay in lays[::13]], list(range(9496))[::13])

    def test_twelve_links(self):
        for seed in range(60):
            lay = some_lay(12, seed % 13, seed)
            self.assertEqual(lay_by_number(12, lay_number(lay)), lay)
        self.assertEqual(lay_number((12, ())), 0)
        self.assertEqual(lay_by_number(12, 0), (12, ()))
        self.assertEqual(lay_by_number(12, PAIRINGS[11] - 1), (12, ((22, 23),)))
        self.assertEqual(lay_number((12, ((22, 23),))), PAIRINGS[11] - 1)
        lays = []
        for number in range(0, PAIRINGS[11], PAIRINGS[11] // 50):
            lays.append(lay_by_number(12, number))
            self.assertEqual(lay_number(lays[-1]), number)
        self.assertEqual(lays, sorted(set(lays)))

    def test_wrong_numbers(self):
        for links in (1, 2, 12):
            most = PAIRINGS[links - 1]
            wrong = [None, True, False, -1, most, 10 ** 999, "0", "", b"0", b"", [0], (0,), (), {}]
            for number in wrong:
                self.assertEqual(tells(lay_by_number, links, number), ("BadNumber", {"value": number}))
        for links in WRONG_LINKS:
            self.assertEqual(tells(lay_by_number, links, None), ("BadNumber", {"value": links}))


class Steps(unittest.TestCase):
    def test_count_steps(self):
        for links in ALL_LAYS:
            for lay in ALL_LAYS[links]:
                self.assertEqual(strict(count_steps(lay)), strict(len(all_steps(lay))))
        for joints in range(13):
            lay = some_lay(12, joints, joints)
            self.assertEqual(count_steps(lay), len(all_steps(lay)))

    def test_it_hangs_on_the_numbers_of_links_and_joints_alone(self):
        for links in ALL_LAYS:
            for many in (1, 2, 9):
                counts = {}
                for lay in ALL_LAYS[links]:
                    counts.setdefault(len(lay[1]), set()).add((count_steps(lay), count_histories(lay, many)))
                self.assertTrue(all(len(found) == 1 for found in counts.values()))

    def test_count_histories(self):
        for links in (1, 2, 3):
            reached = {lay: 1 for lay in ALL_LAYS[links]}
            behind = {lay: [lay_behind(lay, step) for step in all_steps(lay)] for lay in ALL_LAYS[links]}
            for many in range(61):
                for lay in ALL_LAYS[links][::9]:
                    self.assertEqual(count_histories(lay, many), reached[lay])
                reached = {lay: sum(reached[met] for met in behind[lay]) for lay in reached}

    def test_histories_of_great_lays(self):
        for joints in range(13):
            lay = some_lay(12, joints, joints)
            self.assertEqual(count_histories(lay, 0), 1)
            self.assertEqual(count_histories(lay, 1), count_steps(lay))
            for many in (2, 60):
                further = [count_histories(lay_behind(lay, step), many - 1) for step in all_steps(lay)]
                self.assertEqual(count_histories(lay, many), sum(further))

    def test_wrong_many(self):
        for many in WRONG_MANY:
            self.assertEqual(tells(count_histories, (1, ()), many), ("BadNumber", {"value": many}))


class WrongNumbers(unittest.TestCase):
    def test_count_lays(self):
        for links in WRONG_LINKS:
            self.assertEqual(tells(count_lays, links), ("BadNumber", {"value": links}))

    def test_count_with(self):
        wrong = [None, True, False, -1, 13, 10 ** 999, "0", b"0", [0], (0,), {}]
        for links in WRONG_LINKS:
            self.assertEqual(tells(count_with, links, -1, 13), ("BadNumber", {"value": links}))
        for value in wrong:
            self.assertEqual(tells(count_with, 1, value, "x"), ("BadNumber", {"value": value}))
            self.assertEqual(tells(count_with, 1, 0, value), ("BadNumber", {"value": value}))


if __name__ == "__main__":
    unittest.main()
