"""doublecut.tolls, [51] and [52]."""

import random
import unittest
from itertools import combinations

from doublecut.pairing import greatest_lay, greatest_worth, possible_joints
from doublecut.tolls import bound_of, check_tolls, tight_frees, tight_joints, tolls_paper
from doublecut.worths import worth_of, worths_of

from tests.helpers import ODD_VALUES, WRONG_LAYS, model_lays, some_lay, spoiled, strict, tells, truth_values
from tests.test_worths import drawn_worths, is_whole, worth_by_words

DRAW = random.Random(51)


def wanting(links, *groups, worth=1, free=0):
    """Worths where each two ends of a group want one another."""
    pairs = sorted((low, high, worth) for group in groups for low, high in combinations(sorted(group), 2))
    return (free,) * (2 * links), tuple(pairs)


ODD_GROUPS = [
    wanting(2, (0, 1, 2)), wanting(2, (1, 2, 3), worth=24), wanting(3, (0, 1, 2, 3, 4)),
    wanting(3, (0, 2, 4), (1, 3, 5)),
    wanting(6, (0, 1, 2), (3, 4, 5), (6, 7, 8), (9, 10, 11), worth=3), wanting(6, range(11), worth=2),
    wanting(6, (0, 3, 5), (1, 2, 6, 7, 8), worth=5), wanting(6, range(9), free=1, worth=7), wanting(6, range(12)),
]
# three ends that want one another within five that do so less
NESTED = (0,) * 6, (
    (0, 1, 5), (0, 2, 5), (0, 3, 2), (0, 4, 2), (1, 2, 5), (1, 3, 2), (1, 4, 2), (2, 3, 2), (2, 4, 2), (3, 4, 2),
)
FEW = [
    drawn_worths(links, DRAW, most, free) for links in (1, 2, 3) for most, free in ((1, 0), (3, 1), (24, 0), (24, 7))
    for _ in range(6)
] + [((0, 0), ()), ((24, 24), ((0, 1, 24),)), NESTED] + ODD_GROUPS[:4]
MORE = [
    drawn_worths(links, DRAW, most, free) for links in (4, 5, 6) for most, free in ((1, 0), (2, 0), (5, 1), (24, 5))
    for _ in range(4)
] + ODD_GROUPS[4:] + [((0,) * 12, ()), ((24,) * 12, ())]
PLAIN = (1, 0, 0, 2), ((0, 1, 5), (0, 2, 5), (1, 2, 5))


def do_cover_by_words(worths, tolls, lots):
    frees, pairs = worths
    ends = range(len(frees))
    if not isinstance(tolls, tuple) or len(tolls) != len(frees):
        return False
    if not all(is_whole(toll, 0, toll) for toll in tolls if isinstance(toll, int)):
        return False
    if not all(isinstance(toll, int) for toll in tolls) or not isinstance(lots, tuple):
        return False
    subsets = {strict(found) for many in range(3, len(frees) + 1, 2) for found in combinations(ends, many)}
    for lot in lots:
        if not isinstance(lot, tuple) or len(lot) != 2 or strict(lot[0]) not in subsets:
            return False
        if not isinstance(lot[1], int) or isinstance(lot[1], bool) or lot[1] <= 0:
            return False
    told = [lot[0] for lot in lots]
    if told != sorted(told) or len(set(told)) < len(told) or any(toll < free for toll, free in zip(tolls, frees)):
        return False
    wanted = {(low, high): worth for low, high, worth in pairs}
    return all(
        tolls[low] + tolls[high] + sum(toll for lot, toll in lots if low in lot and high in lot)
        >= wanted.get((low, high), 0) for low, high in combinations(ends, 2)
    )


def bound_by_words(worths, tolls, lots):
    if not do_cover_by_words(worths, tolls, lots):
        return None
    return sum(tolls) + sum(toll * (len(lot) - 1) // 2 for lot, toll in lots)


def word_by_words(worths, paper):
    """The word with which a paper is refused, or None."""
    if not isinstance(paper, tuple) or len(paper) != 3:
        return "form"
    lay, tolls, lots = paper
    links = len(worths[0]) // 2
    if links > 3:
        raise ValueError("lays of few links alone")
    if strict(lay) not in LAYS[links]:
        return "lay"
    bound = bound_by_words(worths, tolls, lots)
    if bound is None:
        return "tolls"
    return None if worth_by_words(worths, lay) == bound else "bound"


LAYS = {links: {strict(lay) for lay in model_lays(links)} for links in (1, 2, 3)}


class Papers(unittest.TestCase):
    def test_they_hold(self):
        for worths in FEW + MORE:
            paper = tolls_paper(worths)
            self.assertIsInstance(paper, tuple)
            self.assertEqual(len(paper), 3)
            lay, tolls, lots = paper
            most = greatest_worth(worths)
            self.assertEqual(strict(bound_of(worths, tolls, lots)), strict(most))
            self.assertEqual(bound_by_words(worths, tolls, lots), most)
            self.assertEqual(worth_of(worths, lay), most)
            self.assertEqual(strict(check_tolls(worths, paper)), strict(most))

    def test_lots_are_wanted(self):
        for worths in ODD_GROUPS[:7] + [NESTED]:
            _, tolls, lots = tolls_paper(worths)
            self.assertNotEqual(lots, ())
            # without the lots the same tolls do not cover
            self.assertIsNone(bound_of(worths, tolls, ()))
        # three ends, each two of which are worth 1: no lay is worth 2, and tolls alone that cover sum to 2 at least
        three = wanting(2, (0, 1, 2))
        self.assertEqual(greatest_worth(three), 1)
        least = min(
            sum(tolls) for tolls in [(a, b, c, 0) for a in range(2) for b in range(2) for c in range(2)]
            if bound_of(three, tolls, ()) is not None
        )
        self.assertEqual(least, 2)
        self.assertEqual(bound_of(three, (0, 0, 0, 0), (((0, 1, 2), 1),)), 1)
        five = wanting(3, range(5))
        self.assertEqual(bound_of(five, (0,) * 6, (((0, 1, 2, 3, 4), 1),)), 2)

    def test_worths_of_several(self):
        for links in (2, 4, 6):
            for many in range(1, 7):
                several = tuple(some_lay(links, DRAW.randint(0, links), DRAW.random()) for _ in range(many))
                worths = worths_of(several)
                self.assertEqual(check_tolls(worths, tolls_paper(worths)), greatest_worth(worths))

    def test_each_greatest_lay_holds_and_no_other(self):
        for worths in FEW[::3]:
            _, tolls, lots = tolls_paper(worths)
            for lay in model_lays(len(worths[0]) // 2):
                wanted = ("BadPaper", {"word": "bound"})
                if worth_by_words(worths, lay) == greatest_worth(worths):
                    wanted = ("value", greatest_worth(worths))
                self.assertEqual(tells(check_tolls, worths, (lay, tolls, lots)), wanted)

    def test_form_then_lay_then_tolls_then_bound(self):
        lay, tolls, lots = paper = tolls_paper(PLAIN)
        greater = tuple(toll + 1 for toll in tolls)
        cases = [
            ("form", list(paper)), ("form", paper[:2]), ("form", (*paper, ())), ("form", None),
            ("lay", (None, None, None)), ("lay", ((3, ()), tolls, lots)), ("lay", (list(lay), tolls, lots)),
            ("lay", ((1, ()), None, lots)), ("lay", ((2, ((0, 0),)), tolls, lots)), ("lay", ((True, ()), tolls, lots)),
            ("tolls", (lay, None, lots)), ("tolls", (lay, tolls, None)), ("tolls", (lay, list(tolls), lots)),
            ("tolls", (lay, (0, 0, 0, 2), lots)), ("tolls", (lay, (1, 0, 0, 1), lots)), ("tolls",
            (lay, tolls[1:], lots)),
            ("tolls", ((2, ()), tolls[1:], lots)), ("tolls", (lay, (1, 0, 0, 2), ())),
            ("bound", (lay, greater, lots)), ("bound", ((2, ()), tolls, lots)), ("bound", (lay, (9, 9, 9, 9), ())),
        ]
        for word, told in cases:
            self.assertEqual(word_by_words(PLAIN, told), word, told)
            for call in (check_tolls, tight_joints, tight_frees):
                self.assertEqual(tells(call, PLAIN, told), ("BadPaper", {"word": word}), told)
        for call in (check_tolls, tight_joints, tight_frees):
            for value in ODD_VALUES:
                self.assertEqual(tells(call, PLAIN, value), ("BadPaper", {"word": "form"}))
            for wrong, _ in WRONG_LAYS:
                self.assertEqual(tells(call, PLAIN, (wrong, tolls, lots)), ("BadPaper", {"word": "lay"}))

    def test_spoiled(self):
        for worths in (((1, 0), ((0, 1, 2),)), PLAIN, NESTED):
            paper = tolls_paper(worths)
            if worths == PLAIN:
                paper = (paper[0], (1, 1, 1, 2), (((0, 1, 2), 3),))
            for value in list(spoiled(paper))[::1 if worths != NESTED else 3] + truth_values(paper)[:30]:
                word = word_by_words(worths, value)
                wanted = ("BadPaper", {"word": word})
                if word is None:
                    wanted = ("value", greatest_worth(worths))
                self.assertEqual(strict(tells(check_tolls, worths, value)), strict(wanted), value)


class Bounds(unittest.TestCase):
    def test_no_lay_is_worth_more(self):
        for worths in FEW:
            ends = len(worths[0])
            for _ in range(40):
                tolls = tuple(DRAW.randint(0, 12) for _ in range(ends))
                lots = tuple(
                    (lot, DRAW.randint(1, 9)) for many in range(3, ends, 2) for lot in combinations(range(ends), many)
                    if DRAW.random() < 0.3
                )
                for told in (lots, tuple(sorted(lots))):
                    bound = bound_of(worths, tolls, told)
                    self.assertEqual(strict(bound), strict(bound_by_words(worths, tolls, told)))
                    if bound is not None:
                        self.assertGreaterEqual(bound, greatest_worth(worths))

    def test_what_the_document_tells(self):
        self.assertEqual(bound_of(((0, 0), ()), (0, 0), ()), 0)
        self.assertEqual(bound_of(((0, 0), ((0, 1, 5),)), (2, 3), ()), 5)
        self.assertIsNone(bound_of(((0, 0), ((0, 1, 5),)), (2, 2), ()))
        self.assertEqual(bound_of(((3, 0), ((0, 1, 3),)), (3, 0), ()), 3)
        self.assertIsNone(bound_of(((3, 1), ()), (3, 0), ()))
        self.assertIsNone(bound_of(((3, 1), ()), (2, 1), ()))
        self.assertEqual(bound_of(((0, 0), ()), (10 ** 999, 1), ()), 10 ** 999 + 1)
        self.assertEqual(bound_of(((0,) * 6, ()), (0,) * 6, (((0, 1, 2), 3), ((0, 1, 2, 3, 4), 4))), 11)
        # a lot lessens what is wanted of two ends only if it has both
        self.assertIsNone(bound_of(wanting(2, (0, 1), worth=2), (1, 0, 0, 0), (((0, 2, 3), 9),)))

    def test_any_values(self):
        worths = (0,) * 6, ()
        tolls, lots = (0,) * 6, (((0, 1, 2), 1),)
        self.assertEqual(bound_of(worths, tolls, lots), 1)
        for value in ODD_VALUES + [(0,) * 5, (0,) * 7, [0] * 6, (0, 0, 0, 0, 0, -1), (0, 0, 0, 0, 0, True), "000000",
                                   b"000000", (0, 0, 0, 0, 0, None), (0, 0, 0, 0, 0, "0"), (0, 0, 0, 0, 0, (0,))]:
            self.assertIsNone(bound_of(worths, value, lots), value)
            self.assertIsNone(bound_of(worths, value, None))
        wrong = [
            [((0, 1, 2), 1)], (((0, 1, 2), 0),), (((0, 1, 2), -1),), (((0, 1, 2), True),), (((0, 1, 2), "1"),),
            (((0, 1, 2), None),), ([(0, 1, 2), 1],), (([0, 1, 2], 1),), (((0, 1), 1),), (((0,), 1),), (((), 1),),
            (((0, 1, 2, 3), 1),), (((0, 2, 1), 1),), (((0, 1, 1), 1),), (((0, 1, 6), 1),), (((-1, 0, 1), 1),),
            (((0, True, 2), 1),), (((False, 1, 2), 1),), (((0, 1, None), 1),), (((0, 1, "2"), 1),), (((0, 1, 2),),),
            (((0, 1, 2), 1, 1),), (((0, 1, 2), 1), ((0, 1, 2), 2)), (((0, 1, 3), 1), ((0, 1, 2), 1)), (None,), ((),),
            (((0, 1, 2), 1), None), ("012",), (b"01",), (((0, 1, 10 ** 999), 1),), ((("0", "1", "2"), 1),),
            ((b"012", 1),), (("012", 1),), (((0, 1, (2,)), 1),), ((0, 1, 2), 1),
        ]
        for value in wrong + [value for value in ODD_VALUES if value != ()]:
            self.assertIsNone(bound_of(worths, tolls, value), value)
        self.assertEqual(bound_of(worths, tolls, ()), 0)
        self.assertEqual(bound_of(worths, tolls, (((0, 1, 2), 1), ((0, 1, 2, 3, 4), 1), ((0, 1, 3), 10 ** 999))),
                         3 + 10 ** 999)
        self.assertIsNone(bound_of(worths, tolls, (((0, 1, 2, 3, 4), 1), ((0, 1, 2), 1))))
        for value in list(spoiled((tolls, lots)))[::2]:
            if isinstance(value, tuple) and len(value) == 2:
                self.assertEqual(strict(bound_of(worths, *value)), strict(bound_by_words(worths, *value)), value)

    def test_wrong_worths(self):
        calls = [(bound_of, [None, None]), (tolls_paper, []), (check_tolls, [None]), (tight_joints, [None])]
        for call, rest in calls + [(tight_frees, [None])]:
            for value in ODD_VALUES:
                place = (0,) if isinstance(value, tuple) and len(value) == 2 else ()
                self.assertEqual(tells(call, value, *rest), ("BadWorths", {"place": place}))
            for value, place in ((((0,) * 14, ()), (0,)), (((0, 25), ()), (0,)), (((0, 0), []), (1,)),
                                 (((0, 0), ((0, 1, 25),)), (1, 0))):
                self.assertEqual(tells(call, value, *rest), ("BadWorths", {"place": place}))


class Tight(unittest.TestCase):
    def test_by_words(self):
        for worths in FEW + MORE:
            for paper in (tolls_paper(worths), (greatest_lay(worths), *tolls_paper(worths)[1:])):
                _, tolls, lots = paper
                ends = range(len(tolls))
                wanted = {(low, high): worth for low, high, worth in worths[1]}
                joints = tuple(
                    (low, high) for low, high in combinations(ends, 2) if wanted.get((low, high), 0)
                    == tolls[low] + tolls[high] + sum(toll for lot, toll in lots if low in lot and high in lot)
                )
                self.assertEqual(strict(tight_joints(worths, paper)), strict(joints))
                frees = tuple(end for end in ends if tolls[end] == worths[0][end])
                self.assertEqual(strict(tight_frees(worths, paper)), strict(frees))

    def test_facts(self):
        for worths in FEW + MORE[::2]:
            paper = tolls_paper(worths)
            tight = tight_joints(worths, paper)
            self.assertLessEqual(set(possible_joints(worths)), set(tight))
            joined = {end for joint in greatest_lay(worths)[1] for end in joint}
            self.assertLessEqual(set(range(len(worths[0]))) - joined, set(tight_frees(worths, paper)))
            for lot, _ in paper[2]:
                within = [joint for joint in greatest_lay(worths)[1] if joint[0] in lot and joint[1] in lot]
                self.assertEqual(2 * len(within), len(lot) - 1)

    def test_joints_that_are_worth_nothing(self):
        worths = (0, 0, 1, 0), ()
        paper = (2, ()), (0, 0, 1, 0), ()
        self.assertEqual(tight_joints(worths, paper), ((0, 1), (0, 3), (1, 3)))
        self.assertEqual(tight_frees(worths, paper), (0, 1, 2, 3))


if __name__ == "__main__":
    unittest.main()
