"""doublecut.trees, [47] and [48]."""

import random
import unittest
from itertools import combinations, product

from doublecut.middles import least_sum
from doublecut.trees import (
    are_least, check_tree, labels_sum, leaves, need_tree, tree_labels, tree_paper, tree_sum,
)

from tests.helpers import ODD_VALUES, WRONG_LAYS, model_lays, some_lay, spoiled, strict, tells, truth_values

DRAW = random.Random(47)
BARE, ONE, TWO = (2, ()), (2, ((0, 1),)), (2, ((0, 2), (1, 3)))


def grown(lays, lean):
    """A tree of these lays: "left", "right", "even", or drawn."""
    if len(lays) == 1:
        return lays[0]
    many = len(lays)
    at = {"left": many - 1, "right": 1, "even": many // 2}.get(lean) or DRAW.randint(1, many - 1)
    return "fork", grown(lays[:at], lean), grown(lays[at:], lean)


def drawn(links, many, lean):
    return grown([some_lay(links, DRAW.randint(0, links), DRAW.random()) for _ in range(many)], lean)


LEANS = ("left", "right", "even", "drawn")
FEW = [drawn(links, many, lean) for links, most in ((1, 4), (2, 4)) for many in range(1, most + 1) for lean in LEANS]
MORE = FEW + [drawn(links, many, lean) for links in (2, 3, 4) for many in range(1, 9) for lean in LEANS]
GREAT = [drawn(12, many, lean) for many in (2, 5, 8) for lean in LEANS]
ALIKE = [grown([ONE] * many, lean) for many in (1, 2, 8) for lean in LEANS]
ALL = MORE + GREAT + ALIKE


def is_fork(value):
    return value[0] == "fork"


def lays_by_words(tree):
    return [lay for part in tree[1:] for lay in lays_by_words(part)] if is_fork(tree) else [tree]


def all_labels(tree, lays):
    """All labels of a tree, with the lays of these to choose from."""
    if not is_fork(tree):
        return [tree]
    both = [all_labels(part, lays) for part in tree[1:]]
    return [("fork", lay, left, right) for lay in lays for left, right in product(*both)]


def sum_by_words(labels):
    if not is_fork(labels):
        return 0
    _, lay, *below = labels
    tops = [part[1] if is_fork(part) else part for part in below]
    return sum(len(set(lay[1]) ^ set(top[1])) for top in tops) + sum(sum_by_words(part) for part in below)


def best_by_words(tree, joint):
    """The pair of what is best at the top, True, False or None where either does, and of the least sum."""
    if not is_fork(tree):
        return joint in tree[1], 0
    (left, one), (right, other) = [best_by_words(part, joint) for part in tree[1:]]
    if left is None or right is None or left == right:
        return right if left is None else left, one + other
    return None, one + other + 1


def all_joints(tree):
    ends = range(2 * lays_by_words(tree)[0][0])
    return [(low, high) for low in ends for high in ends if low < high]


def plain_by_words(tree, above=()):
    if not is_fork(tree):
        return tree
    present = []
    for joint in all_joints(tree):
        best, _ = best_by_words(tree, joint)
        if best or (best is None and joint in above):
            present.append(joint)
    lay = lays_by_words(tree)[0][0], tuple(present)
    return "fork", lay, plain_by_words(tree[1], present), plain_by_words(tree[2], present)


def sum_of_one(tree, joint):
    """The least sum of one joint alone, by going through where it is present."""
    def ways(part):
        if not is_fork(part):
            return {joint in part[1]: 0}
        both = [ways(below) for below in part[1:]]
        return {
            here: sum(min(count + (there != here) for there, count in found.items()) for found in both)
            for here in (False, True)
        }
    return min(ways(tree).values())


def paths_by_words(tree, path=()):
    if not is_fork(tree):
        return [path]
    return paths_by_words(tree[1], path + (1,)) + paths_by_words(tree[2], path + (2,))


def branches(paths, one, other):
    """The branches between two lays, by what is below them."""
    return {path[:at] for path in (paths[one], paths[other]) for at in range(1, len(path) + 1)} - {
        paths[one][:at] for at in range(1, len(paths[one]) + 1) if paths[one][:at] == paths[other][:at]
    }


def is_label(tree, value):
    """Whether a value is labels of a tree, by words."""
    if not is_fork(tree):
        return strict(value) == strict(tree)
    if not isinstance(value, tuple) or len(value) != 4 or strict(value[0]) != "'fork'":
        return False
    links = lays_by_words(tree)[0][0]
    if strict(value[1]) not in ALL_LAYS[links]:
        return False
    return is_label(tree[1], value[2]) and is_label(tree[2], value[3])


ALL_LAYS = {links: {strict(lay) for lay in model_lays(links)} for links in (1, 2, 3, 4)}


def word_by_words(tree, paper):
    """The word with which a paper is refused, or None."""
    if not isinstance(paper, tuple) or len(paper) != 2:
        return "form"
    labels, ways = paper
    if not is_label(tree, labels):
        return "labels"
    lays, paths, joints = lays_by_words(tree), paths_by_words(tree), all_joints(tree)
    numbers = [(one, other) for one in range(len(lays)) for other in range(one + 1, len(lays))]
    known = {
        strict((joint, one, other)) for joint in joints for one, other in numbers
        if (joint in lays[one][1]) != (joint in lays[other][1])
    }
    if not isinstance(ways, tuple) or any(strict(way) not in known for way in ways):
        return "ways"
    if any(not way < after for way, after in zip(ways, ways[1:])):
        return "ways"
    for (joint, one, other), (same, third, last) in combinations(ways, 2):
        if joint == same and branches(paths, one, other) & branches(paths, third, last):
            return "ways"
    return None if len(ways) == sum_by_words(labels) else "sum"


class Trees(unittest.TestCase):
    def test_leaves(self):
        for tree in ALL:
            self.assertIs(need_tree(tree), tree)
            self.assertEqual(strict(leaves(tree)), strict(tuple(lays_by_words(tree))))

    def test_nine_lays(self):
        for lean in ("left", "right", "even"):
            tree = grown([ONE] * 8, lean)
            self.assertEqual(len(leaves(tree)), 8)
        self.assertEqual(tells(need_tree, grown([ONE] * 9, "left")), ("BadTree", {"path": (2,)}))
        self.assertEqual(tells(need_tree, grown([ONE] * 9, "right")), ("BadTree", {"path": (2,) * 8}))
        self.assertEqual(tells(need_tree, ("fork", ONE, grown([ONE] * 8, "left"))), ("BadTree", {"path": (2, 2)}))
        self.assertEqual(tells(need_tree, ("fork", grown([ONE] * 8, "left"), ONE)), ("BadTree", {"path": (2,)}))
        # the ninth lay is refused ahead of all that stands behind it, whatever it is
        for ninth in (None, (3, ()), ONE):
            tree = "fork", grown([ONE] * 8, "even"), ("fork", ninth, None)
            self.assertEqual(tells(need_tree, tree), ("BadTree", {"path": (2, 1)}))

    def test_paths(self):
        deep = ("fork", ONE, ("fork", ONE, (2, ((0, 0),))))
        cases = [
            (None, ()), ((3, ((0, 0),)), ()), (("fork", ONE), ()), (("fork", ONE, ONE, ONE), ()),
            (["fork", ONE, ONE], ()), (("Fork", ONE, ONE), ()), ((b"fork", ONE, ONE), ()),
            (("fork",), ()), ("fork", ()), ((ONE, ONE), ()),
            ((ONE, ONE, "fork"), ()), (("fork", None, None), (1,)), (("fork", ONE, None), (2,)),
            (("fork", ("fork", ONE), None), (1,)), (deep, (2, 2)), (("fork", deep, None), (1, 2, 2)),
            (("fork", ONE, (3, ())), (2,)), (("fork", (3, ()), ("fork", (3, ((0, 1),)), ONE)), (2, 2)),
            (("fork", ("fork", ONE, ONE), ("fork", (1, ()), None)), (2, 1)), (("fork", ONE, [2, ()]), (2,)),
            (("fork", ONE, ("fork", ONE, ONE, ())), (2,)), (("fork", ONE, (True, ())), (2,)),
            (("fork", (1, ()), (True, ())), (2,)), (("fork", (), ONE), (1,)), (("fork", ONE, ("fork", (), ())), (2, 1)),
        ]
        for tree, path in cases:
            for call, rest in CALLS:
                found = tells(call, tree, *rest)
                self.assertEqual(strict(found), strict(("BadTree", {"path": path})), (call, tree))

    def test_no_lays(self):
        for call, rest in CALLS:
            for value in ODD_VALUES + [lay for lay, _ in WRONG_LAYS]:
                self.assertEqual(tells(call, value, *rest), ("BadTree", {"path": ()}), value)
                self.assertEqual(tells(call, ("fork", value, None), *rest), ("BadTree", {"path": (1,)}))
                self.assertEqual(tells(call, ("fork", ("fork", ONE, BARE), value), *rest), ("BadTree", {"path": (2,)}))

    def test_nested_fifty_deep(self):
        left, right = ONE, ONE
        for _ in range(40):
            left, right = ("fork", left, ONE), ("fork", ONE, right)
        self.assertEqual(tells(need_tree, left), ("BadTree", {"path": (1,) * 32 + (2,)}))
        self.assertEqual(tells(need_tree, right), ("BadTree", {"path": (2,) * 8 + (1,)}))
        none = None
        for _ in range(45):
            none = "fork", none, None
        self.assertEqual(tells(need_tree, none), ("BadTree", {"path": (1,) * 45}))


CALLS = [
    (need_tree, []), (leaves, []), (tree_sum, []), (tree_labels, []), (labels_sum, [None]), (are_least, [None]),
    (tree_paper, []), (check_tree, [None]),
]


class Sums(unittest.TestCase):
    def test_by_going_through_all_labels(self):
        for tree in FEW + ALIKE[:4]:
            known = all_labels(tree, model_lays(lays_by_words(tree)[0][0]))
            sums = [sum_by_words(labels) for labels in known]
            least = min(sums)
            self.assertEqual(strict(tree_sum(tree)), strict(least))
            for labels, found in list(zip(known, sums))[::7]:
                self.assertEqual(strict(labels_sum(tree, labels)), strict(found))
                self.assertIs(are_least(tree, labels), found == least)
            for labels in [labels for labels, found in zip(known, sums) if found == least][:20]:
                self.assertIs(are_least(tree, labels), True)

    def test_joint_by_joint(self):
        for tree in ALL:
            least = sum(sum_of_one(tree, joint) for joint in all_joints(tree))
            self.assertEqual(strict(tree_sum(tree)), strict(least))
            self.assertEqual(least, sum(best_by_words(tree, joint)[1] for joint in all_joints(tree)))

    def test_two_and_three_lays(self):
        # of two lays it is their difference; of three, however they are forked, what a middle has
        for one, other in ((BARE, ONE), (ONE, TWO), (TWO, TWO)):
            self.assertEqual(tree_sum(("fork", one, other)), len(set(one[1]) ^ set(other[1])))
        for lays in ((BARE, ONE, TWO), (ONE, ONE, TWO), (TWO, BARE, TWO)):
            for lean in ("left", "right"):
                self.assertEqual(tree_sum(grown(lays, lean)), least_sum(lays))

    def test_wrong_labels(self):
        for tree in (ONE, ("fork", ONE, TWO), ("fork", ("fork", ONE, BARE), TWO)):
            labels = tree_labels(tree)
            values = [other for value in truth_values(labels) for other in [value, *spoiled(value)]]
            for value in values + [tree]:
                wanted = ("BadPaper", {"word": "labels"})
                if is_label(tree, value):
                    wanted = ("value", sum_by_words(value))
                self.assertEqual(strict(tells(labels_sum, tree, value)), strict(wanted), value)
                least = is_label(tree, value) and sum_by_words(value) == tree_sum(tree)
                self.assertIs(are_least(tree, value), least)
            for value in ODD_VALUES:
                self.assertEqual(tells(labels_sum, tree, value), ("BadPaper", {"word": "labels"}))
                self.assertIs(are_least(tree, value), False)
        tree = ("fork", ONE, TWO)
        for value in (("fork", (3, ()), ONE, TWO), ("fork", BARE, TWO, ONE), ("fork", BARE, ONE, BARE),
                      ("fork", BARE, ONE), ("fork", BARE, ("fork", BARE, ONE, ONE), TWO), ["fork", BARE, ONE, TWO]):
            self.assertEqual(tells(labels_sum, tree, value), ("BadPaper", {"word": "labels"}))
            self.assertIs(are_least(tree, value), False)


class Plain(unittest.TestCase):
    def test_by_words(self):
        for tree in ALL:
            labels = tree_labels(tree)
            self.assertEqual(strict(labels), strict(plain_by_words(tree)))
            self.assertEqual(labels_sum(tree, labels), tree_sum(tree))
            self.assertIs(are_least(tree, labels), True)

    def test_what_the_document_tells(self):
        self.assertEqual(tree_labels(ONE), ONE)
        self.assertEqual(tree_labels(("fork", ONE, BARE)), ("fork", BARE, ONE, BARE))
        self.assertEqual(tree_labels(("fork", ONE, ONE)), ("fork", ONE, ONE, ONE))
        # below a fork at which the joint is best present it is present where either does
        tree = ("fork", ("fork", ONE, BARE), ONE)
        self.assertEqual(tree_labels(tree), ("fork", ONE, ("fork", ONE, ONE, BARE), ONE))
        tree = ("fork", ("fork", ONE, BARE), ("fork", BARE, ONE))
        self.assertEqual(tree_labels(tree), ("fork", BARE, ("fork", BARE, ONE, BARE), ("fork", BARE, BARE, ONE)))
        # at the top either does, at the left fork it is best present all the same
        tree = ("fork", ("fork", ONE, ONE), BARE)
        self.assertEqual(tree_labels(tree), ("fork", BARE, ("fork", ONE, ONE, ONE), BARE))


class Papers(unittest.TestCase):
    def test_they_hold(self):
        for tree in ALL:
            paper = tree_paper(tree)
            self.assertIsInstance(paper, tuple)
            self.assertEqual(strict(check_tree(tree, paper)), strict(tree_sum(tree)))
            if tree in MORE:
                self.assertIsNone(word_by_words(tree, paper))

    def test_all_labels_with_the_least_sum_hold(self):
        for tree in FEW[::2]:
            _, ways = tree_paper(tree)
            for labels in all_labels(tree, model_lays(lays_by_words(tree)[0][0]))[::5]:
                wanted = ("BadPaper", {"word": "sum"})
                if sum_by_words(labels) == len(ways):
                    wanted = ("value", len(ways))
                self.assertEqual(tells(check_tree, tree, (labels, ways)), wanted)

    def test_form_then_labels_then_ways_then_sum(self):
        tree = ("fork", ("fork", ONE, BARE), TWO)
        labels, ways = tree_paper(tree)
        self.assertEqual(len(ways), 3)
        other = ("fork", ONE, ("fork", ONE, ONE, BARE), TWO)
        cases = [
            ("form", [labels, ways]), ("form", (labels,)), ("form", (labels, ways, ())), ("form", None),
            ("labels", (None, ways)), ("labels", (tree, ways)), ("labels", (None, None)), ("labels", (ways, labels)),
            ("ways", (labels, list(ways))), ("ways", (labels, None)), ("ways", (other, None)),
            ("ways", (labels, ways[::-1])), ("ways", (labels, ways + ways[-1:])), ("ways", (other, ways + ways[-1:])),
            ("ways", (labels, (((0, 1), 1, 0),))), ("ways", (labels, (((0, 1), 0, 0),))),
            ("ways", (labels, (((0, 1), 0, 3),))), ("ways", (labels, (((0, 1), 1, 2),))),
            ("ways", (labels, (((0, 1), -1, 2),))), ("ways", (labels, (((0, 1), 0, 1), ((0, 1), 0, 2)))),
            ("ways", (labels, (((0, 4), 0, 1),))), ("ways", (labels, (((1, 0), 0, 1),))),
            ("ways", (labels, (((False, 1), 0, 1),))), ("ways", (labels, (((0, 1), False, 1),))),
            ("ways", (labels, (((0, 1), 0, True),))), ("ways", (labels, (((0, 1), 0),))),
            ("ways", (labels, ([(0, 1), 0, 1],))), ("ways", (labels, (((0, 2), 0, 2), ((0, 2), 1, 2)))),
            ("sum", (labels, ways[:-1])), ("sum", (labels, ())), ("sum", (other, ())),
        ]
        for word, paper in cases:
            self.assertEqual(tells(check_tree, tree, paper), ("BadPaper", {"word": word}), paper)
            self.assertEqual(word_by_words(tree, paper), word)
        for value in ODD_VALUES:
            word = "labels" if isinstance(value, tuple) and len(value) == 2 else "form"
            self.assertEqual(tells(check_tree, tree, value), ("BadPaper", {"word": word}))

    def test_spoiled(self):
        for tree in (ONE, ("fork", ONE, TWO), ("fork", ("fork", ONE, BARE), ("fork", TWO, (2, ((0, 1), (2, 3)))))):
            paper = tree_paper(tree)
            values = list(spoiled(paper))[::1 if len(leaves(tree)) < 3 else 4]
            for value in values + truth_values(paper)[:40]:
                word = word_by_words(tree, value)
                wanted = ("value", tree_sum(tree)) if word is None else ("BadPaper", {"word": word})
                self.assertEqual(strict(tells(check_tree, tree, value)), strict(wanted), value)

    def test_left_out_and_twice(self):
        for tree in MORE[::3]:
            labels, ways = tree_paper(tree)
            for at in range(len(ways)):
                left = ways[:at] + ways[at + 1:]
                self.assertEqual(tells(check_tree, tree, (labels, left)), ("BadPaper", {"word": "sum"}))
                twice = ways[:at] + ways[at:at + 1] + ways[at:]
                self.assertEqual(tells(check_tree, tree, (labels, twice)), ("BadPaper", {"word": "ways"}))


if __name__ == "__main__":
    unittest.main()
