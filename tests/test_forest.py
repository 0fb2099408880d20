"""doublecut.forest, [34], [35] and [36]."""

import random
import unittest
from itertools import permutations
from math import factorial

from doublecut.chains import chains_of
from doublecut.forest import all_orders, check_forest, count_orders, forest, is_order
from doublecut.kept import greatest_lots, kept_lots, many_kept, strong_lots

from tests.helpers import ODD_VALUES, WRONG_LAYS, lay_of_lines, some_lines, spoiled, strict, tells, truth_values
from tests.test_stretches import LINE, RING, TURNED, many_several, some_several


def lines(*told):
    return tuple(lay_of_lines(lay) for lay in told)


def several_in_line(links, many, seed):
    """Several lays of one line each, whose links stand in like orders, so that many lots are kept."""
    draw = random.Random(seed)
    order = list(range(1, links + 1))
    found = []
    for _ in range(many):
        at = draw.randint(0, links - 1)
        end = draw.randint(at + 1, links)
        order = order[:at] + [-told for told in order[at:end][::-1]] + order[end:]
        found.append(lay_of_lines([tuple(order)]))
    return tuple(found)


# rows, free lots, rows within free lots and the other way round, links turned about
SEVERAL = [
    lines([(1,)]), lines([(1, 2)]), lines([(1,), (2,)]), lines([(1, 2, 3)]), lines([(-2, 1)], [(2,), (-1,)]),
    lines([(1, 2, 3)], [(1, 3, 2)], [(2, 1, 3)]), lines([(1, 2, 3, 4)], [(-2, 4, 1, 3)]),
    lines([(1, 2, 3, 4)], [(2, 1, 4, 3)]), lines([(1, 2, 3, 4, 5)], [(3, 2, -1, 5, 4)]),
    # a row within a free lot
    lines([(1, 2, 3, 4, 5)], [(3, 5, 2, -1, 4)]), lines([(1, 2, 3, 4, 5, 6)], [(4, 6, 3, 2, 1, 5)]),
    # a free lot within a row
    lines([(1, 2, 3, 4, 5)], [(5, 2, 4, 1, 3)]), lines([(6, 1, 2, 3, 4, 5)], [(6, 2, 4, 1, 3, 5)]),
    # rows within a free lot within a row, in two lines
    lines([(7, 1, 2, 3, 4, 5), (6,)], [(3, 5, 2, -1, 4, 7), (6,)]), lines([(4, 5), (1, 2, 3)]),
    lines([(1, 2, 3), (4, 5, 6)], [(3, 1, 2), (6, -5, 4)]),
    lines([(1, 2), (3, 4), (5, 6)], [(4, 3), (6,), (5, -2, -1)]),
    lines([(6, 5, 4), (1, 3, 2)], [(5, 6), (2, 1, 3, 4)]),
    lines([(5, 3, 1), (2, 4)], [(1, 3, 2), (4, 5)], [(1, 5, 3), (2, -4)]),
]
MORE = [several_in_line(6, many, 10 * many + seed) for many in (2, 2, 3, 4, 6) for seed in range(8)]
FEW_LINKS = SEVERAL + MORE + list(many_several())


def links_of(tree):
    return [tree[1]] if tree[0] == "link" else [link for part in tree[1] for link in links_of(part)]


def lot_of(trees):
    return tuple(sorted(link for tree in trees for link in links_of(tree)))


def nodes(trees):
    for tree in trees:
        yield tree
        if tree[0] != "link":
            yield from nodes(tree[1])


def told_lots(trees):
    """The lots that a paper tells, by its words."""
    found = []
    for tree in nodes(trees):
        found.append(lot_of([tree]))
        if tree[0] == "row":
            many = len(tree[1])
            runs = [(at, end) for at in range(many) for end in range(at + 2, many + 1) if (at, end) != (0, many)]
            found.extend(lot_of(tree[1][at:end]) for at, end in runs)
    return sorted(found)


def orders_by_words(several):
    """All orders that keep several lays, by going through all orders."""
    kept = kept_lots(several)
    found = []
    for order in permutations(range(several[0][0])):
        place = {link: at for at, link in enumerate(order)}
        if all(max(place[k] for k in lot) - min(place[k] for k in lot) == len(lot) - 1 for lot in kept):
            found.append(order)
    return tuple(sorted(found))


def in_form(value, links):
    """Whether any value is a tuple of trees in form."""
    if not isinstance(value, tuple) or len(value) > links:
        return False
    for tree in value:
        if not isinstance(tree, tuple) or len(tree) != 2 or not isinstance(tree[0], str):
            return False
        if tree[0] == "link":
            if not isinstance(tree[1], int) or isinstance(tree[1], bool) or not 0 <= tree[1] < links:
                return False
        elif tree[0] not in ("row", "free") or not in_form(tree[1], links) or len(tree[1]) < 2:
            return False
    return True


class Forests(unittest.TestCase):
    def test_trees_of_strong_lots(self):
        words = set()
        for several in FEW_LINKS + [several_in_line(12, many, many) for many in (1, 2, 3, 4, 6)]:
            found = forest(several)
            standing = [abs(told) - 1 for line in chains_of(several[0])[0] for told in line]
            strong, kept = strong_lots(several), set(kept_lots(several))
            self.assertEqual(sorted(lot_of([tree]) for tree in found), list(greatest_lots(several)))
            self.assertEqual(sorted(lot_of([tree]) for tree in nodes(found)), list(strong))
            self.assertEqual([link for tree in found for link in links_of(tree)], standing)
            for tree in nodes(found):
                if tree[0] == "link":
                    self.assertEqual(strict(tree), strict(("link", links_of(tree)[0])))
                    continue
                whole, parts = set(lot_of([tree])), [lot_of([part]) for part in tree[1]]
                inner = [lot for lot in strong if set(lot) < whole]
                greatest = [lot for lot in inner if not any(set(lot) < set(other) for other in inner)]
                self.assertEqual(sorted(parts), sorted(greatest))
                in_row = len(parts) == 2 or lot_of(tree[1][:2]) in kept
                self.assertEqual(tree, ("row" if in_row else "free", tree[1]))
                words.add((tree[0], tuple(sorted({part[0] for part in tree[1]}))))
        self.assertLessEqual({("row", ("link",)), ("free", ("link",)), ("row", ("free", "link"))}, words)
        self.assertIn(("free", ("link", "row")), words)

    def test_what_the_document_tells(self):
        links = [("link", link) for link in range(6)]
        self.assertEqual(forest(lines([(1,)])), (("link", 0),))
        self.assertEqual(forest((LINE,)), (("row", tuple(links[:5])),))
        self.assertEqual(forest(lines([(1, 2, 3)], [(1, 3, 2)], [(2, 1, 3)])), (("free", tuple(links[:3])),))
        self.assertEqual(
            forest((LINE, TURNED)),
            (("row", (("row", (links[0], links[1])), links[2])), ("row", (links[3], links[4]))),
        )
        # in the first lay, read as its tidy chains tell it, line by line
        told_back, behind = ("row", tuple(links[2::-1])), ("row", tuple(links[3:5]))
        self.assertEqual(forest(lines([(4, 5), (-1, -2, -3)])), (told_back, behind))
        self.assertEqual(forest(lines([(4, 5), (3, 2, 1)])), (told_back, behind))
        several = lines([(1, 2, 3, 4, 5)], [(3, 5, 2, -1, 4)])
        self.assertEqual(forest(several), (("free", (("row", (links[0], links[1])), links[2], links[3], links[4])),))

    def test_twelve_links(self):
        bare = (12, ())
        self.assertEqual(forest((bare,)), tuple(("link", link) for link in range(12)))
        for seed in range(6):
            several = several_in_line(12, 4, seed)
            self.assertEqual(check_forest(several, forest(several)), many_kept(several))
            self.assertGreater(count_orders(several), 1)


class Papers(unittest.TestCase):
    def test_the_forest_is_a_paper(self):
        for several in FEW_LINKS:
            found = forest(several)
            self.assertEqual(strict(check_forest(several, found)), strict(many_kept(several)))
            self.assertEqual(told_lots(found), list(kept_lots(several)))

    def shuffled(self, trees, draw, any_order=True):
        """Trees in any order, in the paper and in "free"; rows one way round or the other."""
        made = []
        for tree in trees:
            if tree[0] == "link":
                made.append(tree)
            else:
                made.append((tree[0], self.shuffled(tree[1], draw, tree[0] == "free")))
        if any_order:
            draw.shuffle(made)
        elif draw.random() < 0.5:
            made = made[::-1]
        return tuple(made)

    def test_trees_in_any_order(self):
        draw = random.Random(14)
        for several in FEW_LINKS:
            for _ in range(3):
                paper = self.shuffled(forest(several), draw)
                self.assertEqual(check_forest(several, paper), many_kept(several))

    def test_rows_in_another_order_do_not_hold(self):
        links = tuple(("link", link) for link in (0, 2, 1))
        self.assertEqual(tells(check_forest, lines([(1, 2, 3)]), (("row", links),)), ("BadPaper", {"word": "lots"}))
        links = tuple(("link", link) for link in (2, 1, 0))
        self.assertEqual(check_forest(lines([(1, 2, 3)]), (("row", links),)), 6)

    def test_other_papers(self):
        for several in SEVERAL[:12]:
            links, kept = several[0][0], list(kept_lots(several))
            for value in [other for told in truth_values(forest(several))[:4] for other in spoiled(told)]:
                found = tells(check_forest, several, value)
                if not in_form(value, links):
                    wanted = ("BadPaper", {"word": "form"})
                elif told_lots(value) != kept:
                    wanted = ("BadPaper", {"word": "lots"})
                else:
                    wanted = ("value", len(kept))
                self.assertEqual(strict(found), strict(wanted), (several, value))

    def test_form(self):
        links = tuple(("link", link) for link in range(5))
        wrong = [("link", 0), [links[0]], (["link", 0],), (("link", 5),), (("link", -1),), (("link", True),)]
        wrong += [(("link",),), (("row", ()),), (("row", links[:1]),), (("free", links[:1]),), (("free", ()),)]
        wrong += [(("row", list(links)),), (("row", links + links[:1]),), links + links[:1], (("Row", links),)]
        wrong += [((b"row", links),), (links[0], None)]
        wrong += [(("row", links, links),), (("row", (links[0], ("free", (links[1],)))),), ("link",), (("link", (0,)),)]
        wrong += [(("row", (links[0], ("row", links[1:3] * 3))),), (("free", links[:4] + (("link", 10 ** 999),)),)]
        for value in wrong + [value for value in ODD_VALUES if value != ()]:
            self.assertEqual(tells(check_forest, (LINE,), value), ("BadPaper", {"word": "form"}), value)

    def test_lots(self):
        links = tuple(("link", link) for link in range(5))
        wrong = [(), links, (("free", links),), (("row", links[:4]),), (("row", links[:4] + links[:1]),), links[:1] * 5]
        wrong += [(("row", links[:4]), links[4]), (("row", (("row", links[:2]), *links[2:])),)]
        wrong += [(("row", links[1:] + links[:1]),), (("row", links[:3]), ("row", links[2:]))]
        for value in wrong:
            self.assertEqual(tells(check_forest, (LINE,), value), ("BadPaper", {"word": "lots"}), value)
        self.assertEqual(check_forest((LINE,), (("row", links),)), 15)
        # a lot of two trees is the same in "row" and in "free"
        self.assertEqual(check_forest(lines([(1, 2)]), (("free", links[:2]),)), 3)
        self.assertEqual(check_forest(lines([(1, 2)]), (("row", links[:2]),)), 3)

    def test_much_too_much(self):
        # far more trees in trees than links, each tuple of them as long as it may be
        tree = ("link", 0)
        for _ in range(4):
            tree = ("row", (tree,) * 12)
        several = ((12, ()),)
        self.assertEqual(tells(check_forest, several, (tree,)), ("BadPaper", {"word": "lots"}))
        other = (("free", (tree, ("link", 12))),)
        self.assertEqual(tells(check_forest, several, other), ("BadPaper", {"word": "form"}))


class Orders(unittest.TestCase):
    def test_by_going_through_all_orders(self):
        for several in FEW_LINKS:
            if several[0][0] > 5 and several not in SEVERAL + MORE[::4]:
                continue
            known = orders_by_words(several)
            self.assertEqual(strict(count_orders(several)), strict(len(known)))
            if len(known) <= 2000:
                self.assertEqual(strict(all_orders(several)), strict(known))
            for order in permutations(range(several[0][0])):
                if several[0][0] < 5:
                    self.assertIs(is_order(several, order), order in known)

    def test_orders_of_six_links_and_some_of_them(self):
        for several in MORE[1::4]:
            known = set(all_orders(several))
            for order in list(permutations(range(6)))[::7]:
                self.assertIs(is_order(several, order), order in known)
            self.assertEqual(len(known), count_orders(several))

    def test_about_two_thousand(self):
        self.assertEqual(len(all_orders(((6, ()),))), 720)
        self.assertEqual(tells(all_orders, ((7, ()),)), ("TooGreat", {"most": 2000}))
        self.assertEqual(count_orders(((7, ()),)), 5040)
        # five lines, four of them of two links: 5 * 4 * 3 * 2 * 16 orders
        several = lines([(1, 2), (3, 4), (5, 6), (7, 8), (9,)])
        self.assertEqual((count_orders(several), len(all_orders(several))), (1920, 1920))
        self.assertEqual(all_orders(several), tuple(sorted(set(all_orders(several)))))
        self.assertTrue(all(is_order(several, order) for order in all_orders(several)))
        several = lines([(1, 2), (3, 4), (5, 6), (7, 8), (9, 10)])
        self.assertEqual(count_orders(several), 3840)
        self.assertEqual(tells(all_orders, several), ("TooGreat", {"most": 2000}))

    def test_twelve_links(self):
        self.assertEqual(count_orders(((12, ()),) * 6), factorial(12))
        line = lay_of_lines([tuple(range(1, 13))])
        self.assertEqual(count_orders((line,)), 2)
        self.assertEqual(all_orders((line,)), (tuple(range(12)), tuple(range(11, -1, -1))))
        self.assertIs(is_order((line,), tuple(range(12))), True)
        self.assertIs(is_order((line,), (1, 0) + tuple(range(2, 12))), False)
        self.assertIs(is_order(((12, ()),), (1, 0) + tuple(range(2, 12))), True)

    def test_any_value(self):
        several = lines([(1, 2, 3)])
        wrong = [[0, 1, 2], (0, 1), (0, 1, 1), (0, 1, 2, 3), (1, 2, 3), (0, True, 2), (False, 1, 2)]
        for value in ODD_VALUES + wrong:
            self.assertIs(is_order(several, value), False, value)
        for value in [other for order in ((0, 1, 2), (2, 1, 0)) for other in [order, *spoiled(order)]]:
            self.assertIs(is_order(several, value), strict(value) in ("(0, 1, 2)", "(2, 1, 0)"), value)
        self.assertIs(is_order(lines([(1,)]), (0,)), True)
        self.assertIs(is_order(lines([(1,)]), (False,)), False)
        self.assertIs(is_order(lines([(1,)]), ()), False)


class Refused(unittest.TestCase):
    def test_several(self):
        wrong = [(value, None) for value in ODD_VALUES if not isinstance(value, tuple) or not value]
        wrong += [([LINE], None), ((LINE,) * 7, None), (LINE, 0), ((RING, None), 1), ((LINE, TURNED, RING, RING), 2)]
        wrong += [((LINE, lay), 1) for lay, _ in WRONG_LAYS] + [((LINE, (4, ()), None), 2)]
        calls = [(forest, []), (check_forest, [None]), (count_orders, []), (is_order, [None]), (all_orders, [])]
        for call, rest in calls:
            for value, place in wrong:
                self.assertEqual(tells(call, value, *rest), ("BadSeveral", {"place": place}), value)
            for value in ((LINE, (4, ())), (RING, (4, ())), ((4, ((0, 1),)), LINE)):
                self.assertEqual(tells(call, value, *rest), ("Unlike", {}))
        ringed = ((9, ((0, 1),)), (9, ()))
        self.assertEqual(tells(all_orders, ringed), ("BadSeveral", {"place": 0}))
        self.assertEqual(tells(all_orders, ((9, ()), (8, ()))), ("Unlike", {}))


if __name__ == "__main__":
    unittest.main()
