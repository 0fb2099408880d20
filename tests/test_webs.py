"""doublecut.webs and [17]."""

import unittest

from doublecut.lays import free_ends
from doublecut.webs import kinds, pieces, row_of, rows

from tests.helpers import model_lays, some_lay, some_pairs, strict, tells

ALL_LAYS = {links: model_lays(links) for links in (1, 2, 3)}
PAIRS = [(one, other) for links in (1, 2) for one in ALL_LAYS[links] for other in ALL_LAYS[links]]
PAIRS += [(one, other) for one in ALL_LAYS[3][::5] for other in ALL_LAYS[3]]
PAIRS += some_pairs(4, 60, 1) + some_pairs(7, 40, 2) + some_pairs(12, 80, 3)
PAIRS += [(some_lay(12, 12, 1), some_lay(12, 12, 2)), ((12, ()), (12, ())), (some_lay(12, 9, 1),) * 2]


def hanging(one, other):
    """The lots of ends that hang together, as sets."""
    parts = [{end} for end in range(2 * one[0])]
    for low, high in one[1] + other[1]:
        first = [part for part in parts if low in part][0]
        second = [part for part in parts if high in part][0]
        if first is not second:
            parts.remove(second)
            first |= second
    return parts


def is_row_by_turns(row, one, other):
    """Whether the ends of a row are tied by joints of one and other in turn, the first of them by one."""
    lays = (one, other)
    return all(
        tuple(sorted(row[at:at + 2])) in lays[at % 2][1] for at in range(len(row) - 1)
    )


def kind_of(row, one, other):
    """The kind of a piece that has this row, by the words of the document."""
    if len(row) % 2 == 1:
        return "odd"
    free = set(free_ends(one)) & {row[0], row[-1]}, set(free_ends(other)) & {row[0], row[-1]}
    if not free[0] and not free[1]:
        return "ring"
    return "open" if len(free[0]) == 2 and is_row_by_turns(row, other, one) else "shut"


class Webs(unittest.TestCase):
    def test_rows(self):
        for one, other in PAIRS:
            found = rows(one, other)
            self.assertEqual(list(found), sorted(found))
            parts = hanging(one, other)
            self.assertEqual(sorted(sorted(part) for part in parts), sorted(sorted(row) for row in found))
            for row in found:
                kind = kind_of(row, one, other)
                if kind == "ring":
                    self.assertEqual(row[0], min(row))
                    self.assertTrue(is_row_by_turns(row, one, other))
                    self.assertIn(tuple(sorted((row[0], row[-1]))), other[1])
                else:
                    self.assertLessEqual(row[0], row[-1])
                    self.assertTrue(is_row_by_turns(row, one, other) or is_row_by_turns(row, other, one))
                for end in row:
                    self.assertEqual(strict(row_of(one, other, end)), strict(row))

    def test_pieces_and_kinds(self):
        for one, other in PAIRS:
            told = sorted((kind_of(row, one, other), len(row)) for row in rows(one, other))
            self.assertEqual(strict(pieces(one, other)), strict(tuple(told)))
            words = [kind for kind, _ in told]
            self.assertEqual(kinds(one, other), tuple(words.count(kind) for kind in ("ring", "odd", "open", "shut")))
            self.assertEqual(words.count("odd") % 2, 0)

    def test_the_two_lays_change_places(self):
        turned = {"ring": "ring", "odd": "odd", "open": "shut", "shut": "open"}
        for one, other in PAIRS:
            told = sorted((turned[kind], size) for kind, size in pieces(one, other))
            self.assertEqual(list(pieces(other, one)), told)

    def test_each_kind(self):
        self.assertEqual(pieces((1, ()), (1, ())), (("odd", 1), ("odd", 1)))
        self.assertEqual(pieces((1, ((0, 1),)), (1, ((0, 1),))), (("ring", 2),))
        self.assertEqual(pieces((1, ()), (1, ((0, 1),))), (("open", 2),))
        self.assertEqual(pieces((1, ((0, 1),)), (1, ())), (("shut", 2),))
        one, other = (2, ((0, 1), (2, 3))), (2, ((0, 2), (1, 3)))
        self.assertEqual(pieces(one, other), (("ring", 4),))
        self.assertEqual(rows(one, other), ((0, 1, 3, 2),))
        self.assertEqual(rows(other, one), ((0, 2, 3, 1),))
        self.assertEqual(rows((2, ((1, 3),)), (2, ((0, 3),))), ((0, 3, 1), (2,)))
        self.assertEqual(rows((2, ((0, 1), (2, 3))), (2, ((1, 3),))), ((0, 1, 3, 2),))
        self.assertEqual(kinds((2, ((0, 1), (2, 3))), (2, ((1, 3),))), (0, 0, 0, 1))
        self.assertEqual(kinds((12, ()), (12, ())), (0, 24, 0, 0))

    def test_ends_that_are_not_there(self):
        for end in (24, -1, True, None):
            self.assertEqual(tells(row_of, (12, ()), (12, ()), end), ("BadEnd", {"value": end}))


if __name__ == "__main__":
    unittest.main()
