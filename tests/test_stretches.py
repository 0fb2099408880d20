"""doublecut.stretches, [31] and [32]."""

import random
import unittest
from itertools import combinations

from doublecut.chains import chains_of
from doublecut.stretches import check_lot, is_kept, lot_paper, stretches

from tests.helpers import ODD_VALUES, WRONG_LAYS, lay_of_lines, some_lines, spoiled, strict, tells, truth_values

LINE, TURNED = lay_of_lines([(1, 2, 3, 4, 5)]), lay_of_lines([(4, -5), (3, 1, -2)])
RING = (5, ((0, 1),))


def some_several(links, many, lines, seed):
    draw = random.Random(seed)
    return tuple(some_lines(links, draw.randint(1, lines), draw) for _ in range(many))


def many_several():
    for links in range(1, 7):
        for many in range(1, 7):
            for lines in (1, 2, links):
                yield some_several(links, many, lines, 100 * links + 10 * many + lines)


def all_lots(links):
    return sorted(lot for size in range(1, links + 1) for lot in combinations(range(links), size))


def lines_told(lay):
    return [[abs(told) - 1 for told in line] for line in chains_of(lay)[0]]


def stands(lay, lot):
    """The number of the line and the place of the first link of a lot that is a stretch of a lay, else None."""
    for number, line in enumerate(lines_told(lay)):
        for at in range(len(line)):
            if sorted(line[at:at + len(lot)]) == list(lot):
                return number, at
    return None


def true_papers(several, lot):
    """All papers on a lot."""
    places = tuple(stands(lay, lot) for lay in several)
    found = [] if None in places else [("kept", places)]
    for number, lay in enumerate(several):
        place = {link: (line, at) for line, told in enumerate(lines_told(lay)) for at, link in enumerate(told)}
        for one in lot:
            for other in lot:
                if place[one][0] != place[other][0]:
                    found.append(("apart", number, one, other))
                for between in range(lay[0]):
                    alike = place[one][0] == place[between][0] == place[other][0]
                    if between not in lot and alike and place[one] < place[between] < place[other]:
                        found.append(("torn", number, one, between, other))
    return found


class Stretches(unittest.TestCase):
    def test_each_lay(self):
        for several in many_several():
            for number, lay in enumerate(several):
                wanted = tuple(lot for lot in all_lots(lay[0]) if stands(lay, lot) is not None)
                self.assertEqual(strict(stretches(several, number)), strict(wanted))

    def test_what_the_document_tells(self):
        self.assertEqual(stretches(((3, ()),), 0), ((0,), (1,), (2,)))
        turned = lay_of_lines([(3, -1), (2,)])
        self.assertEqual(stretches((LINE[:1] + ((),), (5, ())), 1), ((0,), (1,), (2,), (3,), (4,)))
        self.assertEqual(stretches((turned,), 0), ((0,), (0, 2), (1,), (2,)))
        self.assertEqual(stretches((lay_of_lines([(1, 2, 3)]),), 0), ((0,), (0, 1), (0, 1, 2), (1,), (1, 2), (2,)))

    def test_twelve_links(self):
        several = some_several(12, 6, 1, 5)
        for number in range(6):
            self.assertEqual(len(stretches(several, number)), 78)

    def test_wrong_numbers(self):
        for several in ((LINE,), (LINE, TURNED)):
            for value in ODD_VALUES + [len(several), (0,), "1"]:
                if strict(value) not in [strict(number) for number in range(len(several))]:
                    found = tells(stretches, several, value)
                    self.assertEqual(strict(found), strict(("BadLink", {"value": value})))


class Kept(unittest.TestCase):
    def test_all_lots(self):
        for several in many_several():
            for lot in all_lots(several[0][0]):
                wanted = all(stands(lay, lot) is not None for lay in several)
                self.assertIs(is_kept(several, lot), wanted)

    def test_what_the_document_tells(self):
        several = (LINE, TURNED)
        for lot, kept in (((0,), True), ((4,), True), ((0, 1), True), ((0, 1, 2), True), ((3, 4), True),
                          ((1, 2), False), ((0, 1, 2, 3, 4), False), ((0, 2), False), ((2, 3), False)):
            self.assertIs(is_kept(several, lot), kept, lot)
            self.assertIs(is_kept(several[::-1] * 3, lot), kept, lot)

    def test_twelve_links(self):
        line = lay_of_lines([tuple(range(1, 13))])
        self.assertIs(is_kept((line,) * 6, tuple(range(12))), True)
        self.assertIs(is_kept((line,) * 5 + ((12, ()),), (10, 11)), False)
        self.assertIs(is_kept((line,) * 5 + ((12, ()),), (11,)), True)


class Papers(unittest.TestCase):
    def test_papers_hold(self):
        for several in many_several():
            for lot in all_lots(several[0][0]):
                known = true_papers(several, lot)
                paper = lot_paper(several, lot)
                self.assertIn(strict(paper), [strict(told) for told in known])
                self.assertEqual({told[0] == "kept" for told in known}, {is_kept(several, lot)})
                for told in known:
                    self.assertEqual(strict(check_lot(several, lot, told)), strict(told[0]))

    def test_papers_that_do_not_hold(self):
        several = (LINE, TURNED, lay_of_lines([(2, 5), (4,), (-3, 1)]))
        wants = {"kept": 2, "apart": 4, "torn": 5}
        for lot in ((0,), (0, 1), (0, 2), (0, 1, 2), (1, 2, 4), (3, 4), (0, 1, 2, 3, 4)):
            papers = true_papers(several, lot)
            known = {strict(paper) for paper in papers}
            seeds = papers[:2] + papers[-2:] + [("kept", ((0, 0),) * 3), ("apart", 0, 0, 1), ("torn", 0, 0, 1, 2)]
            for value in [other for paper in seeds for told in truth_values(paper)[:9] for other in spoiled(told)]:
                if strict(value) in known:
                    wanted = ("value", value[0])
                elif isinstance(value, tuple) and value and isinstance(value[0], str) and value[0] in wants:
                    wanted = ("BadPaper", {"word": value[0] if len(value) == wants[value[0]] else "form"})
                else:
                    wanted = ("BadPaper", {"word": "form"})
                self.assertEqual(strict(tells(check_lot, several, lot, value)), strict(wanted), (lot, value))

    def test_all_small_papers(self):
        self.small_papers((lay_of_lines([(1, 3, 2)]), lay_of_lines([(2, -1), (3,)])))
        self.small_papers((lay_of_lines([(1,), (3, -2)]), lay_of_lines([(2,), (3, 1)])))

    def small_papers(self, several):
        numbers = (-1, 0, 1, 2, 3)
        for lot in all_lots(3):
            known = {strict(paper) for paper in true_papers(several, lot)}
            papers = [("apart", lay, one, other) for lay in numbers for one in numbers for other in numbers]
            papers += [paper[:3] + (between,) + paper[3:] for paper in papers for between in numbers]
            papers = [paper if len(paper) == 4 else ("torn", *paper[1:]) for paper in papers]
            pairs = [(line, at) for line in numbers for at in numbers]
            papers += [("kept", (one, other)) for one in pairs for other in pairs]
            for paper in papers:
                if strict(paper) in known:
                    self.assertEqual(check_lot(several, lot, paper), paper[0])
                else:
                    self.assertEqual(tells(check_lot, several, lot, paper), ("BadPaper", {"word": paper[0]}))

    def test_form(self):
        for value in ODD_VALUES + [("kept",), ("kept", (), ()), ("apart", 0, 0), ("torn", 0, 0, 1), ("Kept", ()),
                                   ["kept", ((0, 0),)], ("torn",) * 4, (b"kept", ((0, 0),)), (("kept",), ()), "kept"]:
            self.assertEqual(tells(check_lot, (LINE,), (0, 1), value), ("BadPaper", {"word": "form"}), value)


class Refused(unittest.TestCase):
    def test_several(self):
        calls = [(stretches, [0]), (is_kept, [(0,)]), (lot_paper, [(0,)]), (check_lot, [(0,), ("kept", ((0, 0),) * 2)])]
        wrong = [(value, None) for value in ODD_VALUES if not isinstance(value, tuple) or not value]
        wrong += [([LINE], None), ((LINE,) * 7, None), ((RING,) * 7, None), (LINE, 0), ((LINE, LINE[1]), 1)]
        wrong += [((LINE,) * 5 + (lay,), 5) for lay, _ in WRONG_LAYS] + [((lay, LINE), 0) for lay, _ in WRONG_LAYS]
        wrong += [((LINE, (4, ()), None), 2), ((RING, None), 1), ((RING,), 0), ((LINE, RING, RING), 1)]
        wrong += [((LINE, TURNED, (5, ((0, 1), (2, 9), (3, 8)))), 2)]
        for call, rest in calls:
            for value, place in wrong:
                self.assertEqual(tells(call, value, *rest), ("BadSeveral", {"place": place}), value)
                self.assertEqual(tells(call, value, *[None for _ in rest]), ("BadSeveral", {"place": place}), value)
            for value in ((LINE, (4, ())), (RING, (4, ())), ((4, ((0, 1),)), LINE), (LINE, LINE, (6, ()), RING)):
                self.assertEqual(tells(call, value, *rest), ("Unlike", {}))

    def test_lots(self):
        wrong = [(), [0], (5,), (-1,), (0, 0), (1, 0), (0, 2, 1), (True,), (False, 1), (0, True), (0, 1, 5), ("0",)]
        wrong += [(0, None), ((0,),), (0, (1,)), [0, 1], {0: 1}, 0, "0", b"0", None, True, (0, 10 ** 999), (b"0",)]
        for call, rest in ((is_kept, []), (lot_paper, []), (check_lot, [("kept", ((0, 0),))]), (check_lot, [None])):
            for value in wrong + [other for other in ODD_VALUES if strict(other) not in ("(0,)", "(0, 1)")]:
                found = tells(call, (LINE,), value, *rest)
                self.assertEqual(strict(found), strict(("BadLink", {"value": value})))
            for value in list(spoiled((1, 3))) + truth_values((0, 1)):
                lots = [strict(lot) for lot in all_lots(5)]
                found = tells(call, (LINE,), value, *rest)
                self.assertEqual(found[0] == "BadLink", strict(value) not in lots, value)


if __name__ == "__main__":
    unittest.main()
