"""doublecut.kept, [31] and [33]."""

import unittest

from doublecut.kept import greatest_lots, kept_lots, least_lot, many_kept, shared_joints, strong_lots

from tests.helpers import ODD_VALUES, WRONG_LAYS, lay_of_lines, strict, tells
from tests.test_stretches import LINE, RING, TURNED, all_lots, many_several, some_several, stands


def kept_by_words(several):
    return [lot for lot in all_lots(several[0][0]) if all(stands(lay, lot) is not None for lay in several)]


def overlap_by_words(one, other):
    one, other = set(one), set(other)
    return bool(one & other) and bool(one - other) and bool(other - one)


class Lots(unittest.TestCase):
    def test_by_going_through_all_lots(self):
        for several in many_several():
            kept = kept_by_words(several)
            strong = [lot for lot in kept if not any(overlap_by_words(lot, other) for other in kept)]
            greatest = [lot for lot in kept if not any(set(lot) < set(other) for other in kept)]
            self.assertEqual(strict(kept_lots(several)), strict(tuple(kept)))
            self.assertEqual(strict(many_kept(several)), strict(len(kept)))
            self.assertEqual(strict(strong_lots(several)), strict(tuple(strong)))
            self.assertEqual(strict(greatest_lots(several)), strict(tuple(greatest)))

    def test_what_the_document_tells(self):
        several = (LINE, TURNED)
        self.assertEqual(kept_lots(several), ((0,), (0, 1), (0, 1, 2), (1,), (2,), (3,), (3, 4), (4,)))
        self.assertEqual(strong_lots(several), kept_lots(several))
        self.assertEqual(greatest_lots(several), ((0, 1, 2), (3, 4)))
        self.assertEqual(many_kept(several), 8)
        line = lay_of_lines([(1, 2, 3)])
        self.assertEqual(strong_lots((line,)), ((0,), (0, 1, 2), (1,), (2,)))
        self.assertEqual(kept_lots((line, (3, ()))), ((0,), (1,), (2,)))

    def test_facts_on_lots_that_overlap(self):
        for seed in range(12):
            several = some_several(12, 2, 1 + seed % 2, seed) if seed % 3 else (some_several(12, 1, 2, seed) * 3)
            kept = set(kept_lots(several))
            self.assertTrue(all((link,) in kept for link in range(12)))
            for one in kept:
                for other in kept:
                    if overlap_by_words(one, other):
                        first, second = set(one), set(other)
                        for made in (first | second, first & second, first - second, second - first):
                            self.assertIn(tuple(sorted(made)), kept)

    def test_twelve_links(self):
        line = lay_of_lines([tuple(range(1, 13))])
        self.assertEqual(many_kept((line,)), 78)
        self.assertEqual(len(strong_lots((line,) * 6)), 13)
        self.assertEqual(greatest_lots((line,) * 6), (tuple(range(12)),))
        self.assertEqual(greatest_lots((line, (12, ()))), tuple((link,) for link in range(12)))


class SharedJoints(unittest.TestCase):
    def test_joints_of_all(self):
        for several in many_several():
            wanted = sorted(set(several[0][1]).intersection(*[lay[1] for lay in several]))
            self.assertEqual(strict(shared_joints(several)), strict(tuple(wanted)))
        for many in range(1, 7):
            self.assertEqual(shared_joints((LINE,) * many), LINE[1])
        # the joint (1, 2) of LINE, and not one of unlike ends of the same links
        self.assertEqual(shared_joints((LINE, lay_of_lines([(3, -2), (-5, -4), (1,)]))), ((7, 8),))
        self.assertEqual(shared_joints((LINE, lay_of_lines([(-2, -1), (3, 4, -5)]))), ((1, 2), (5, 6)))


class LeastLot(unittest.TestCase):
    def test_each_two_links(self):
        for several in many_several():
            kept = kept_by_words(several)
            for one in range(several[0][0]):
                for other in range(several[0][0]):
                    found = [(len(lot), lot) for lot in kept if one in lot and other in lot]
                    wanted = min(found)[1] if found else None
                    self.assertEqual(strict(least_lot(several, one, other)), strict(wanted))

    def test_what_the_document_tells(self):
        several = (LINE, TURNED)
        self.assertEqual(least_lot(several, 0, 2), (0, 1, 2))
        self.assertEqual(least_lot(several, 1, 0), (0, 1))
        self.assertEqual(least_lot(several, 4, 4), (4,))
        self.assertIsNone(least_lot(several, 2, 3))

    def test_wrong_links(self):
        for value in ODD_VALUES + [5, -1, (0,), [0], "0"]:
            if strict(value) not in ("0", "1", "2"):
                wanted = strict(("BadLink", {"value": value}))
                self.assertEqual(strict(tells(least_lot, (LINE,), value, 0)), wanted)
                self.assertEqual(strict(tells(least_lot, (LINE,), 0, value)), wanted)
                self.assertEqual(strict(tells(least_lot, (LINE,), value, None)), wanted)
                self.assertEqual(strict(tells(least_lot, (LINE,), value, 77)), wanted)


class Refused(unittest.TestCase):
    def test_several(self):
        calls = [(kept_lots, []), (strong_lots, []), (greatest_lots, []), (many_kept, []), (shared_joints, [])]
        wrong = [(value, None) for value in ODD_VALUES if not isinstance(value, tuple) or not value]
        wrong += [([LINE], None), ((LINE,) * 7, None), (LINE, 0), ((RING, None), 1), ((LINE, TURNED, RING, RING), 2)]
        wrong += [((LINE, lay), 1) for lay, _ in WRONG_LAYS] + [((LINE, (4, ()), None), 2)]
        for call, rest in calls + [(least_lot, [0, 1]), (least_lot, [None, 77])]:
            for value, place in wrong:
                self.assertEqual(tells(call, value, *rest), ("BadSeveral", {"place": place}), value)
            for value in ((LINE, (4, ())), (RING, (4, ())), ((4, ((0, 1),)), LINE)):
                self.assertEqual(tells(call, value, *rest), ("Unlike", {}))


if __name__ == "__main__":
    unittest.main()
