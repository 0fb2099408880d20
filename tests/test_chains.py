"""doublecut.chains and [11]."""

import unittest
from itertools import permutations, product

from doublecut.chains import chain_with, chains_of, count_chains, lay_of, need_chains, tidied

from tests.helpers import ODD_VALUES, model_lays, some_lay, spoiled, strict, tells, truth_values

ALL_LAYS = {links: model_lays(links) for links in (1, 2, 3)}


def ends_of(told):
    """The end by which a link is come to, and the one by which it is left."""
    near, far = 2 * abs(told) - 2, 2 * abs(told) - 1
    return (near, far) if told > 0 else (far, near)


def model_readings(lay, links):
    """All readings of a line, and of a ring, of just these links."""
    joined = {pair for joint in lay[1] for pair in (joint, joint[::-1])}
    taken = {end for joint in lay[1] for end in joint}
    lines, rings = [], []
    for order in permutations(links):
        for signs in product((1, -1), repeat=len(order)):
            reading = tuple(sign * (link + 1) for sign, link in zip(signs, order))
            ends = [ends_of(told) for told in reading]
            if all((one[1], other[0]) in joined for one, other in zip(ends, ends[1:])):
                if ends[0][0] not in taken and ends[-1][1] not in taken:
                    lines.append(reading)
                if (ends[-1][1], ends[0][0]) in joined:
                    rings.append(reading)
    return lines, rings


def parts_of(lay):
    """The links that hang together, as lists."""
    parts = [[link] for link in range(lay[0])]
    for low, high in lay[1]:
        one = [part for part in parts if low // 2 in part][0]
        other = [part for part in parts if high // 2 in part][0]
        if one is not other:
            parts.remove(other)
            one.extend(other)
    return parts


def model_chains(lay):
    lines, rings = [], []
    for part in parts_of(lay):
        as_lines, as_rings = model_readings(lay, part)
        if as_lines:
            lines.append(max(as_lines))
        else:
            rings.append(max(as_rings))
    return tuple(sorted(lines)), tuple(sorted(rings))


class Chains(unittest.TestCase):
    def test_chains_of_all_small_lays(self):
        for links in ALL_LAYS:
            for lay in ALL_LAYS[links]:
                self.assertEqual(strict(chains_of(lay)), strict(model_chains(lay)), lay)

    def test_a_line_has_two_readings_and_a_ring_two_for_each_link(self):
        self.assertEqual(sorted(model_readings((2, ((1, 2),)), [0, 1])[0]), [(-2, -1), (1, 2)])
        self.assertEqual(len(model_readings((3, ((1, 2), (3, 4), (0, 5))), [0, 1, 2])[1]), 6)

    def test_the_words_of_the_document(self):
        self.assertEqual(chains_of((1, ())), (((1,),), ()))
        self.assertEqual(chains_of((1, ((0, 1),))), ((), ((1,),)))
        self.assertEqual(chains_of((2, ((1, 2),))), (((1, 2),), ()))
        self.assertEqual(chains_of((2, ((0, 3),))), (((2, 1),), ()))
        self.assertEqual(chains_of((2, ((0, 2),))), (((-1, 2),), ()))
        self.assertEqual(chains_of((4, ((0, 2), (1, 3), (4, 5)))), (((4,),), ((2, -1), (3,))))

    def test_twelve_links(self):
        for seed in range(40):
            for joints in (0, 3, 8, 11, 12):
                lay = some_lay(12, joints, seed)
                chains = chains_of(lay)
                self.assertEqual(len(chains[0]), 12 - joints)
                self.assertEqual(lay_of(chains), lay)
                self.assertEqual(tidied(chains), chains)
                self.assertEqual(count_chains(lay), (len(chains[0]), len(chains[1])))

    def test_lay_of_all_readings(self):
        for links in ALL_LAYS:
            for lay in ALL_LAYS[links]:
                kinds = [model_readings(lay, part) for part in parts_of(lay)]
                for readings in product(*[lines or rings for lines, rings in kinds]):
                    lines = tuple(told for told, (as_lines, _) in zip(readings, kinds) if as_lines)
                    rings = tuple(told for told, (as_lines, _) in zip(readings, kinds) if not as_lines)
                    for chains in ((lines, rings), (lines[::-1], rings[::-1])):
                        self.assertIs(need_chains(chains), chains)
                        self.assertEqual(strict(lay_of(chains)), strict(lay))
                        self.assertEqual(strict(tidied(chains)), strict(chains_of(lay)))

    def test_chain_with(self):
        for links in ALL_LAYS:
            for lay in ALL_LAYS[links]:
                lines, rings = model_chains(lay)
                for link in range(links):
                    known = [("line", told) for told in lines] + [("ring", told) for told in rings]
                    found = [pair for pair in known if link + 1 in [abs(told) for told in pair[1]]]
                    self.assertEqual([chain_with(lay, link)], found)
        for link in ODD_VALUES + [2, "1"]:
            if strict(link) not in ("0", "1"):
                self.assertEqual(tells(chain_with, (2, ()), link), ("BadLink", {"value": link}))

    def test_count_chains(self):
        for links in ALL_LAYS:
            for lay in ALL_LAYS[links]:
                lines, rings = model_chains(lay)
                self.assertEqual(strict(count_chains(lay)), strict((len(lines), len(rings))))


class WrongChains(unittest.TestCase):
    def test_places(self):
        wrong = [
            (None, ()), (True, ()), (1, ()), ("ab", ()), (b"ab", ()), ([(), ()], ()), ((), ()), (((1,),), ()),
            (((1,), (), ()), ()), ([((1,),), ()], ()), ({0: ()}, ()),
            ((None, ()), (0,)), (([], ()), (0,)), (([(1,)], ()), (0,)), (("1", ()), (0,)), ((1, ()), (0,)),
            ((True, ()), (0,)), ((b"", b""), (0,)), (({}, ()), (0,)),
            (((), None), (1,)), (((), []), (1,)), ((((1,),), [(2,)]), (1,)), ((((1,),), 0), (1,)),
            (((None,), []), (1,)), ((([],), "x"), (1,)),
            (((None,), ()), (0, 0)), ((((),), ()), (0, 0)), (((1,), ()), (0, 0)), ((([1],), ()), (0, 0)),
            ((((1,), [2]), ()), (0, 1)), ((((0,),), ()), (0, 0)), ((((13,),), ()), (0, 0)), ((((-13,),), ()), (0, 0)),
            ((((True,),), ()), (0, 0)), ((((1, None),), ()), (0, 0)), ((((1, "2"),), ()), (0, 0)),
            (((("1",),), ()), (0, 0)), ((("1",), ()), (0, 0)), (((b"1",), ()), (0, 0)), ((((10 ** 999,),), ()), (0, 0)),
            ((((1, (2,)),), ()), (0, 0)), (((tuple(range(1, 14)),), ()), (0, 0)), ((((1,) * 13,), ()), (0, 0)),
            (((), (None,)), (1, 0)), (((), ((1,), ())), (1, 1)), (((), ((1,), (0,))), (1, 1)),
            ((((1,),), ((2,), (False,))), (1, 1)), ((((1,), 0), (None,)), (0, 1)), ((((1,), (0, 2)), ((),)), (0, 1)),
            (((), ()), ()), ((((2,),), ()), ()), ((((1,), (1,)), ()), ()), ((((1, -1),), ()), ()),
            ((((1,),), ((1,),)), ()), ((((1,),), ((3,),)), ()), ((((1, 2, 4),), ()), ()), ((((1,), (-1,)), ()), ()),
            (((tuple(range(1, 13)), (1,)), ()), ()), (((tuple(range(1, 13)),), (tuple(range(1, 13)),)), ()),
        ]
        for chains, place in wrong:
            for call in (need_chains, lay_of, tidied):
                self.assertEqual(tells(call, chains), ("BadChains", {"place": place}), chains)

    def test_the_greatest_integers(self):
        for chains in (
            ((tuple(range(1, 13)),), ()), ((tuple(range(-12, 0)),), ()), ((), (tuple(range(-12, 0)),)),
            (tuple((told,) for told in range(-12, 0)), ()), ((), tuple((told,) for told in range(1, 13))),
        ):
            self.assertIs(need_chains(chains), chains)
            self.assertEqual(lay_of(chains)[0], 12)

    def test_spoiled_chains(self):
        for lay in ALL_LAYS[2]:
            for value in list(spoiled(chains_of(lay))) + truth_values(chains_of(lay)):
                if self.model(value):
                    self.assertIs(need_chains(value), value)
                    self.assertIn(lay_of(value)[0], (1, 2, 3))
                else:
                    self.assertEqual(tells(need_chains, value)[0], "BadChains", value)

    def model(self, value):
        """Whether a value is chains of 1 to 3 links, by its text alone."""
        text = strict(value)
        if not isinstance(value, tuple) or len(value) != 2:
            return False
        for side in value:
            for reading in side if isinstance(side, tuple) else (None,):
                if not isinstance(reading, tuple) or not reading:
                    return False
        flat = [told for side in value for reading in side for told in reading]
        if "True" in text or "False" in text or not all(isinstance(told, int) for told in flat):
            return False
        return sorted(abs(told) for told in flat) in ([1], [1, 2], [1, 2, 3])


if __name__ == "__main__":
    unittest.main()
