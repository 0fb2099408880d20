"""doublecut.spheres, [21] and [22]."""

import unittest

from doublecut.costs import least_steps
from doublecut.counted import count_lays, count_steps
from doublecut.spheres import pairs_count, sphere, sphere_size, sphere_sizes

from tests.helpers import ODD_VALUES, model_lays, some_lay, strict, tells

ALL_LAYS = {links: model_lays(links) for links in (1, 2, 3, 4)}


class Spheres(unittest.TestCase):
    def test_small_lays(self):
        for links in (1, 2, 3):
            for lay in ALL_LAYS[links]:
                away = [least_steps(lay, other) for other in ALL_LAYS[links]]
                told = tuple(away.count(number) for number in range(links + 1))
                self.assertEqual(strict(sphere_sizes(lay)), strict(told))
                self.assertEqual(sum(told), len(away))
                for number in range(links + 1):
                    self.assertEqual(strict(sphere_size(lay, number)), strict(told[number]))
                    met = [other for other, far in zip(ALL_LAYS[links], away) if far == number]
                    self.assertEqual(strict(sphere(lay, number)), strict(tuple(met)))

    def test_four_links(self):
        for joints in range(5):
            lay = some_lay(4, joints, joints)
            away = [least_steps(lay, other) for other in ALL_LAYS[4]]
            self.assertEqual(sphere_sizes(lay), tuple(away.count(number) for number in range(5)))
            for number in range(5):
                met = [other for other, far in zip(ALL_LAYS[4], away) if far == number]
                self.assertEqual(strict(sphere(lay, number)), strict(tuple(met)))

    def test_the_facts_of_great_lays(self):
        for links in (5, 8, 12):
            for joints in range(links + 1):
                lay = some_lay(links, joints, joints)
                sizes = sphere_sizes(lay)
                self.assertEqual(len(sizes), links + 1)
                self.assertEqual(sum(sizes), count_lays(links))
                self.assertEqual(sizes[:2], (1, count_steps(lay)))
                self.assertGreater(sizes[-1], 0)
                self.assertEqual([sphere_size(lay, number) for number in range(links + 1)], list(sizes))
                self.assertEqual(sphere_sizes(some_lay(links, joints, 99)), sizes)

    def test_a_sphere_of_more_links_is_too_great(self):
        for links in (5, 6, 12):
            for number in (0, 1, links):
                self.assertEqual(tells(sphere, (links, ()), number), ("TooGreat", {"most": 1000}))
            for number in (-1, links + 1, True, None):
                self.assertEqual(tells(sphere, (links, ()), number), ("BadNumber", {"value": number}))

    def test_pairs(self):
        for links in (1, 2, 3):
            away = [least_steps(one, other) for one in ALL_LAYS[links] for other in ALL_LAYS[links]]
            for number in range(links + 1):
                self.assertEqual(strict(pairs_count(links, number)), strict(away.count(number)))
        for links in range(4, 13):
            counts = [pairs_count(links, number) for number in range(links + 1)]
            self.assertEqual(counts[0], count_lays(links))
            self.assertEqual(sum(counts), count_lays(links) ** 2)
        self.assertEqual(pairs_count(4, 2), sum(sphere_size(lay, 2) for lay in ALL_LAYS[4]))

    def test_wrong_numbers(self):
        for links in (1, 2, 12):
            lay = some_lay(links, 1, 1)
            fine = [strict(number) for number in range(links + 1)]
            for number in ODD_VALUES + [links + 1]:
                if strict(number) in fine:
                    continue
                for call, told in ((sphere_size, lay), (sphere, lay), (pairs_count, links)):
                    self.assertEqual(tells(call, told, number), ("BadNumber", {"value": number}), (call, number))
        for links in (0, 13, -1, True, None, "1", 10 ** 999):
            self.assertEqual(tells(pairs_count, links, None), ("BadNumber", {"value": links}))


if __name__ == "__main__":
    unittest.main()
