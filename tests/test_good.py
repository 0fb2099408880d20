"""doublecut.good and [20]."""

import unittest

from doublecut.costs import least_steps
from doublecut.good import change, first_good, good_counts, good_steps, is_good, sorts
from doublecut.lots import lays_of
from doublecut.steps import all_steps, lay_behind
from doublecut.webs import pieces, rows

from tests.helpers import model_lays, model_lots, some_lay, some_pairs, strict, tells

ALL_LAYS = {links: model_lays(links) for links in (1, 2, 3)}
PAIRS = [(one, other) for links in (1, 2) for one in ALL_LAYS[links] for other in ALL_LAYS[links]]
PAIRS += [(one, other) for one in ALL_LAYS[3][::9] for other in ALL_LAYS[3][::2]]
PAIRS += [lays_of(lot) for lot in model_lots(8)]
GREAT = some_pairs(12, 12, 7) + [(some_lay(12, 12, 1), some_lay(12, 12, 2)), ((12, ()), some_lay(12, 12, 3))]
GREAT += [(some_lay(12, 12, 3), (12, ())), ((12, ()), (12, ()))]


def cost_of(piece):
    kind, size = piece
    return size // 2 - (kind == "ring")


class Good(unittest.TestCase):
    def test_changes_and_good_steps(self):
        for one, other in PAIRS + GREAT:
            cost = least_steps(one, other)
            steps = all_steps(one)
            told = [least_steps(lay_behind(one, step), other) - cost for step in steps]
            good = tuple(step for step, more in zip(steps, told) if more == -1)
            self.assertEqual(strict(good_steps(one, other)), strict(good))
            self.assertEqual(strict(first_good(one, other)), strict(min(good) if good else None))
            self.assertEqual(strict(sorts(one, other)), strict((told.count(-1), told.count(0), told.count(1))))
            self.assertEqual(sum(sorts(one, other)), len(steps))
            for step, more in list(zip(steps, told))[::5]:
                self.assertEqual(strict(change(one, other, step)), strict(more))
                self.assertIs(is_good(one, other, step), more == -1)

    def test_how_many_are_within_a_piece(self):
        for one, other in PAIRS + GREAT:
            known = pieces(one, other)
            inside = sum(cost_of(piece) * (cost_of(piece) + 1) // 2 for piece in known)
            opens = [cost_of(piece) for piece in known if piece[0] == "open"]
            shuts = [cost_of(piece) for piece in known if piece[0] == "shut"]
            outside = sum(2 * shut * (free + 1) for free in opens for shut in shuts)
            self.assertEqual(strict(good_counts(one, other)), strict((inside, outside)))
            within = [step for step in good_steps(one, other) if self.is_within(one, other, step)]
            self.assertEqual(len(within), inside)

    def is_within(self, one, other, step):
        ends = {end for side in step for joint in side for end in joint}
        return any(ends <= set(row) for row in rows(one, other))

    def test_what_other_good_steps_cut_and_make(self):
        for one, other in PAIRS:
            row_with = {end: row for row in rows(one, other) for end in row}
            free = {end for end in range(2 * one[0]) if not any(end in joint for joint in one[1])}
            for cut, made in good_steps(one, other):
                if self.is_within(one, other, (cut, made)):
                    continue
                words = sorted(self.word(one, other, row_with[joint[0]]) for joint in cut)
                self.assertIn(words, (["shut"], ["open", "shut"]))
                for joint in made:
                    met = sorted(self.word(one, other, row_with[end]) for end in joint)
                    self.assertEqual(met, ["open", "shut"])
                    if len(words) == 1:
                        self.assertEqual(len(free & set(joint)), 1)

    def word(self, one, other, row):
        ties = [sum(row[0] in joint for joint in lay[1]) for lay in (one, other)]
        ends = [sum(row[-1] in joint for joint in lay[1]) for lay in (one, other)]
        if len(row) % 2 == 1:
            return "odd"
        return {(1, 1): "ring", (0, 1): "open", (1, 0): "shut"}[tuple(ties)] if ties == ends else "none"

    def test_no_good_steps(self):
        self.assertIsNone(first_good((12, ()), (12, ())))
        self.assertEqual(good_steps((12, ()), (12, ())), ())
        self.assertEqual(good_counts((12, ()), (12, ())), (0, 0))

    def test_steps_of_other_alone_are_refused(self):
        one, other = (2, ((0, 1),)), (2, ((2, 3),))
        step = (((2, 3),), ())
        for call in (change, is_good):
            self.assertEqual(tells(call, one, other, step), ("BadStep", {"value": step}))
            self.assertEqual(tells(call, other, one, step)[0], "value")


if __name__ == "__main__":
    unittest.main()
