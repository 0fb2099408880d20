"""doublecut.halves, [39], [40] and [42]."""

import unittest

from doublecut.costs import least_steps
from doublecut.halves import halving_cost, nearest_halves, nearest_perfect, twin_pieces
from doublecut.steps import all_steps, lay_behind

from tests.helpers import WRONG_LAYS, distances, model_behind, model_kept_lays, model_lays, some_lay, strict, tells
from tests.test_doubled import doublings_by_words, half_by_words, is_perfect_by_words, twin_by_words

PERFECT = {links: [lay for lay in model_lays(links) if is_perfect_by_words(lay)] for links in (2, 4)}
PERFECT[6] = sorted(lay for single in model_lays(3) for lay in doublings_by_words(single))


def pieces_by_words(lay):
    """The pieces of the web of twins: ends that hang together, with their ties."""
    links, joints = lay
    lot_of = {end: end for end in range(2 * links)}
    twins = [(end, twin_by_words(end, links)) for end in range(2 * links) if end < twin_by_words(end, links)]
    for one, other in [*joints, *twins]:
        gone, kept = lot_of[one], lot_of[other]
        lot_of = {end: kept if lot == gone else lot for end, lot in lot_of.items()}
    found = []
    for lot in set(lot_of.values()):
        ends = {end for end in lot_of if lot_of[end] == lot}
        ties = sum(one in ends for one, _ in twins)
        free = ends - {end for joint in joints for end in joint}
        found.append(("path" if free else "ring", ties))
    return tuple(sorted(found))


def cost_by_words(lay):
    found = pieces_by_words(lay)
    even = sum(word == "ring" and ties % 2 == 0 for word, ties in found)
    odd = sum(word == "path" and ties % 2 == 1 for word, ties in found)
    return lay[0] // 2 - even - odd // 2


def steps_to_perfect(links):
    """A dict of the least number of steps to a perfect lay, by a plain search from all of these at once."""
    start = object()
    away = distances(start, lambda lay: PERFECT[links] if lay is start else [met for _, met in model_behind(lay)])
    return {lay: number - 1 for lay, number in away.items() if lay is not start}


LAYS = model_lays(2) + model_lays(4)[::5]
GREATER = [some_lay(links, joints, 7 * links + joints) for links in (6, 8, 10, 12) for joints in range(links + 1)]


class Pieces(unittest.TestCase):
    def test_by_ends_that_hang_together(self):
        for lay in LAYS + GREATER:
            self.assertEqual(strict(twin_pieces(lay)), strict(pieces_by_words(lay)))

    def test_what_the_document_tells(self):
        for lay, found in (
            ((2, ()), (("path", 1), ("path", 1))), ((2, ((0, 2),)), (("path", 1), ("ring", 1))),
            ((2, ((0, 2), (1, 3))), (("ring", 1), ("ring", 1))), ((2, ((0, 1),)), (("path", 2),)),
            ((2, ((0, 1), (2, 3))), (("ring", 2),)), ((2, ((0, 3), (1, 2))), (("ring", 2),)),
            ((12, ()), (("path", 1),) * 12),
            ((4, ((0, 1), (2, 4), (3, 6), (5, 7))), (("ring", 4),)),
            ((4, ((0, 1), (2, 4), (3, 6))), (("path", 4),)), ((4, ((0, 1), (2, 4))), (("path", 1), ("path", 3))),
        ):
            self.assertEqual(twin_pieces(lay), found)
            self.assertEqual(sum(ties for _, ties in twin_pieces(lay)), lay[0])


class Costs(unittest.TestCase):
    def test_by_a_plain_search(self):
        for links in (2, 4):
            away = steps_to_perfect(links)
            for lay in model_kept_lays(links):
                self.assertEqual(strict(halving_cost(lay)), strict(away[lay]))

    def test_by_the_least_steps_to_all_perfect_lays(self):
        for joints in range(7):
            for seed in range(4):
                lay = some_lay(6, joints, seed)
                self.assertEqual(halving_cost(lay), min(least_steps(lay, perfect) for perfect in PERFECT[6]))

    def test_greater_lays(self):
        for lay in GREATER:
            cost = halving_cost(lay)
            self.assertEqual(cost, cost_by_words(lay))
            self.assertEqual(cost == 0, is_perfect_by_words(lay))
            if lay[0] < 10:
                changes = {halving_cost(lay_behind(lay, step)) - cost for step in all_steps(lay)}
                self.assertLessEqual(changes, {-1, 0, 1})
                self.assertEqual(-1 in changes, cost > 0)

    def test_what_the_document_tells(self):
        for lay, cost in (((2, ()), 0), ((2, ((0, 1),)), 1), ((2, ((0, 2),)), 1), ((2, ((0, 2), (1, 3))), 1),
                          ((2, ((0, 1), (2, 3))), 0), ((12, ()), 0), ((12, ((0, 12),)), 1), ((12, ((0, 13),)), 1)):
            self.assertEqual(halving_cost(lay), cost)


class Nearest(unittest.TestCase):
    def test_by_going_through_all_perfect_lays(self):
        lays = LAYS + [some_lay(6, joints, joints + seed) for joints in range(7) for seed in (20, 30)]
        for lay in lays:
            away = [(least_steps(lay, perfect), perfect) for perfect in PERFECT[lay[0]]]
            least = min(away)[0]
            wanted = [perfect for steps, perfect in away if steps == least]
            self.assertEqual(strict(nearest_perfect(lay)), strict(tuple(wanted)))
            halves = sorted({half_by_words(perfect) for perfect in wanted})
            self.assertEqual(strict(nearest_halves(lay)), strict(tuple(halves)))
            self.assertEqual(least, halving_cost(lay))

    def test_what_the_document_tells(self):
        self.assertEqual(nearest_perfect((2, ((0, 1),))), ((2, ()), (2, ((0, 1), (2, 3)))))
        self.assertEqual(nearest_halves((2, ((0, 1),))), ((1, ()), (1, ((0, 1),))))
        self.assertEqual(nearest_halves((2, ((0, 2), (1, 3)))), ((1, ((0, 1),)),))
        self.assertEqual(len(nearest_perfect((2, ((0, 2), (1, 3))))), 2)
        self.assertEqual(nearest_perfect((6, ())), ((6, ()),))
        self.assertEqual(nearest_halves((6, ())), ((3, ()),))

    def test_more_than_six_links(self):
        for links in (8, 10, 12):
            for joints in ((), ((0, 1),)):
                self.assertEqual(tells(nearest_perfect, (links, joints)), ("TooGreat", {"most": 3}))
                self.assertEqual(tells(nearest_halves, (links, joints)), ("TooGreat", {"most": 3}))
        for links in (1, 3, 5, 7, 9, 11):
            self.assertEqual(tells(nearest_perfect, (links, ())), ("BadLay", {"place": (0,)}))


class Refused(unittest.TestCase):
    def test_lays(self):
        for call in (twin_pieces, halving_cost, nearest_perfect, nearest_halves):
            for wrong, place in WRONG_LAYS:
                self.assertEqual(tells(call, wrong), ("BadLay", {"place": place}))
            for links in (1, 3, 5, 7, 9, 11):
                self.assertEqual(tells(call, (links, ((0, 1),))), ("BadLay", {"place": (0,)}))


if __name__ == "__main__":
    unittest.main()
