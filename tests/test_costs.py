"""doublecut.costs, [18] and [19]."""

import random
import unittest

from doublecut.costs import check_within, is_between, least_steps, within_paper
from doublecut.histories import last_lay
from doublecut.steps import all_steps, lay_behind
from doublecut.webs import kinds, rows

from tests.helpers import (
    ODD_VALUES, distances, model_lays, model_steps, some_lay, some_pairs, spoiled, strict, tells, truth_values,
)

ALL_LAYS = {links: model_lays(links) for links in (1, 2, 3, 4)}
GREAT = some_pairs(12, 40, 7) + [(some_lay(12, 12, 1), some_lay(12, 12, 2)), ((12, ()), some_lay(12, 12, 3))]


def behind(lay):
    return [lay_behind(lay, step) for step in all_steps(lay)]


class Costs(unittest.TestCase):
    def test_against_a_plain_search(self):
        for links in (1, 2):
            near = {lay: [met for _, met in model_steps(lay, ALL_LAYS[links])] for lay in ALL_LAYS[links]}
            for one in ALL_LAYS[links]:
                away = distances(one, near.get)
                self.assertEqual(len(away), len(ALL_LAYS[links]))
                for other in ALL_LAYS[links]:
                    self.assertEqual(strict(least_steps(one, other)), strict(away[other]))

    def test_against_a_search_of_three_and_four_links(self):
        near = {lay: behind(lay) for links in (3, 4) for lay in ALL_LAYS[links]}
        for one in ALL_LAYS[3] + [some_lay(4, joints, joints) for joints in range(5)]:
            away = distances(one, near.get)
            for other in ALL_LAYS[one[0]]:
                self.assertEqual(least_steps(one, other), away[other])
                self.assertEqual(least_steps(other, one), away[other])

    def test_the_facts_of_great_lays(self):
        for one, other in GREAT:
            rings, odds, _, _ = kinds(one, other)
            cost = least_steps(one, other)
            self.assertEqual(2 * cost, 2 * 12 - 2 * rings - odds)
            self.assertEqual(least_steps(other, one), cost)
            self.assertEqual(least_steps(one, one), 0)
            changes = {least_steps(lay, other) - cost for lay in behind(one)}
            self.assertLessEqual(changes, {-1, 0, 1})
            self.assertTrue(cost == 0 or -1 in changes)

    def test_between(self):
        for links in (1, 2):
            for one in ALL_LAYS[links]:
                for third in ALL_LAYS[links]:
                    for other in ALL_LAYS[links]:
                        both = least_steps(one, third) + least_steps(third, other)
                        self.assertGreaterEqual(both, least_steps(one, other))
                        self.assertIs(is_between(one, third, other), both == least_steps(one, other))
        for one, other in GREAT:
            self.assertIs(is_between(one, one, other), True)
            self.assertIs(is_between(one, other, other), True)
            self.assertIs(is_between(one, other, one), one == other)


class Papers(unittest.TestCase):
    def check(self, one, other, most):
        paper = within_paper(one, other, most)
        cost = least_steps(one, other)
        self.assertEqual(paper[0], "within" if cost <= most else "beyond")
        self.assertEqual(check_within(one, other, most, paper), paper[0])
        if paper[0] == "within":
            self.assertLessEqual(len(paper[1]), most)
            self.assertEqual(last_lay(one, paper[1]), other)
        return paper

    def test_papers_of_small_lays(self):
        for links in (1, 2):
            for one in ALL_LAYS[links]:
                for other in ALL_LAYS[links]:
                    for most in (0, 1, 2, 3, 60):
                        self.check(one, other, most)
        for one in ALL_LAYS[3][::4]:
            for other in ALL_LAYS[3]:
                for most in (0, 1, 2, 3, 60):
                    self.check(one, other, most)

    def test_papers_of_great_lays(self):
        for one, other in GREAT:
            cost = least_steps(one, other)
            for most in (0, max(0, cost - 1), cost, 60):
                self.check(one, other, most)

    def test_longer_histories_are_papers_too(self):
        one, other = (1, ()), (1, ((0, 1),))
        join, cut = ((), ((0, 1),)), (((0, 1),), ())
        self.assertEqual(check_within(one, other, 3, ("within", (join, cut, join))), "within")
        self.assertEqual(check_within(one, one, 60, ("within", (join, cut) * 30)), "within")
        for most, history in (
            (2, (join, cut, join)), (3, (join, cut)), (3, (cut,)), (3, [join]), (60, (join, cut) * 30 + (join,)),
            (0, None), (1, ()), (3, (join, join)),
        ):
            self.refused("within", one, other, most, history)

    def test_rows_of_a_paper(self):
        draw = random.Random(5)
        for one, other in GREAT + some_pairs(4, 30, 8):
            if least_steps(one, other) == 0:
                continue
            for _ in range(5):
                told = []
                for row in draw.sample(rows(one, other), len(rows(one, other))):
                    told.append(draw.choice(self.ways(one, other, row)))
                self.assertEqual(check_within(one, other, 0, ("beyond", tuple(told))), "beyond")
                for wrong in (told[1:], told + told[:1], [told[-1]] + told[1:] if len(told) > 1 else []):
                    self.refused("beyond", one, other, 0, tuple(wrong))

    def mates(self, lay, end):
        return [sum(joint) - end for joint in lay[1] if end in joint]

    def test_wrong_rows(self):
        one, other = (2, ((0, 1), (2, 3))), (2, ((0, 2), (1, 3)))
        for row in ((0, 1, 3, 2), (1, 3, 2, 0), (2, 0, 1, 3), (0, 2, 3, 1), (3, 1, 0, 2)):
            self.assertEqual(check_within(one, other, 0, ("beyond", (row,))), "beyond")
        for told in (
            ((0, 1, 2, 3),), ((0, 3, 1, 2),), ((0, 1), (3, 2)), ((False, True, 3, 2),), ([0, 1, 3, 2],),
            [(0, 1, 3, 2)], ((0, 1, 3),), ((0, 1, 3, 2, 0),), ((),), (), (None,), None, ((0, 1, 3, 4),),
            ((0, 1, 3, "2"),), ((0, 1, 3, 2), ()), ((0, 1, 3, 2), (0, 1, 3, 2)), ((-4, 1, 3, 2),), ((24, 1),), ((4,),),
            ((4, 1, 3, 2),),
        ):
            self.refused("beyond", one, other, 0, told)
        for most in (1, 60):
            self.refused("beyond", one, other, most, ((0, 1, 3, 2),))
        # a path begins with one of its last ends
        one, other = (2, ((0, 1),)), (2, ((1, 2),))
        for told in (((0, 1, 2), (3,)), ((3,), (2, 1, 0))):
            self.assertEqual(check_within(one, other, 0, ("beyond", told)), "beyond")
        for told in (((1, 2, 0), (3,)), ((1, 0, 2), (3,)), ((0, 1), (2,), (3,)), ((0, 1, 2),)):
            self.refused("beyond", one, other, 0, told)

    def refused(self, word, one, other, most, told):
        found = tells(check_within, one, other, most, (word, told))
        self.assertEqual(found, ("BadPaper", {"word": word}), told)

    def test_forms(self):
        one = (1, ())
        for paper in ODD_VALUES + [
            ("within",), ("within", (), ()), ["within", ()], ("Within", ()), (b"within", ()), ((), "within"),
            (None, ()), ("", ()), ("with", ()), (True, ()), ([], ()), {"within": ()}, "within", ("form", ()),
            (("within",), ()),
        ]:
            self.assertEqual(tells(check_within, one, one, 0, paper), ("BadPaper", {"word": "form"}), paper)

    def test_spoiled_papers(self):
        one, other = (2, ((0, 1),)), (2, ((0, 2), (1, 3)))
        for most in (1, 2):
            paper = within_paper(one, other, most)
            for value in list(spoiled(paper)) + truth_values(paper):
                found = tells(check_within, one, other, most, value)
                if strict(value) == strict(paper):
                    self.assertEqual(found, ("value", paper[0]))
                elif not isinstance(value, tuple) or len(value) != 2 or value[0] not in ("within", "beyond"):
                    self.assertEqual(found, ("BadPaper", {"word": "form"}), value)
                elif found[0] == "value":
                    self.assertTrue(self.holds(one, other, most, value), value)
                else:
                    self.assertEqual(found, ("BadPaper", {"word": value[0]}), value)
                    self.assertFalse(self.holds(one, other, most, value), value)

    def holds(self, one, other, most, paper):
        text = strict(paper[1])
        if not isinstance(paper[1], tuple) or "[" in text or "True" in text or "False" in text:
            return False
        if paper[0] == "beyond":
            known = [self.ways(one, other, row) for row in rows(one, other)]
            met = [[number for number, ways in enumerate(known) if row in ways] for row in paper[1]]
            return sorted(met) == [[number] for number in range(len(known))] and least_steps(one, other) > most
        return len(paper[1]) <= most and tells(last_lay, one, paper[1]) == ("value", other)

    def ways(self, one, other, row):
        if len(row) > 1 and self.mates(one, row[0]) and self.mates(other, row[0]) and len(row) % 2 == 0:
            return [way[at:] + way[:at] for way in (row, row[::-1]) for at in range(len(row))]
        return [row, row[::-1]]


if __name__ == "__main__":
    unittest.main()
