"""doublecut.lots, [24], [25] and [26]."""

import unittest
from math import factorial

from doublecut.costs import least_steps
from doublecut.good import good_steps
from doublecut.lots import lays_of, lot_cost, lot_count, lot_of, lot_product, lot_ways, need_lot
from doublecut.steps import lay_behind
from doublecut.webs import pieces

from tests.helpers import model_lays, model_lots, some_pairs, spoiled, strict, tells, truth_values

SMALL, MIDDLE = model_lots(8), model_lots(12)
GREAT = [
    (("open", 2),) * 6 + (("shut", 2),) * 6, (("open", 12), ("shut", 12)), (("ring", 24),), (("open", 24),),
    (("shut", 24),), (("odd", 1), ("odd", 23)), (("odd", 1),) * 24, (("odd", 11), ("odd", 13)), (("ring", 2),) * 12,
    (("odd", 3), ("odd", 5), ("open", 4), ("ring", 6), ("shut", 6)),
    (("open", 2), ("open", 2), ("open", 4), ("shut", 2), ("shut", 4), ("shut", 4), ("shut", 6)),
]


def cost_of(lot):
    return sum(size // 2 - (kind == "ring") for kind, size in lot)


def has_open_and_shut(lot):
    return {"open", "shut"} <= {kind for kind, _ in lot}


def ways_of_lays(one, other):
    """The LOTS into which good steps change that of two lays, and how many do, step by step."""
    counts = {}
    for step in good_steps(one, other):
        lot = pieces(lay_behind(one, step), other)
        counts[lot] = counts.get(lot, 0) + 1
    return tuple(sorted(counts.items()))


def count_by_words(lot, known):
    """The NUMBER, by nothing but its first sentence."""
    if cost_of(lot) == 0:
        return 1
    if lot not in known:
        known[lot] = sum(many * count_by_words(behind, known) for behind, many in lot_ways(lot))
    return known[lot]


def product_by_words(lot):
    costs = [cost_of([piece]) for piece in lot]
    product = factorial(sum(costs))
    for cost in costs:
        product //= factorial(cost)
    for cost in costs:
        product *= (cost + 1) ** (cost - 1) if cost > 0 else 1
    return product


class Lots(unittest.TestCase):
    def test_lots_of_lays(self):
        pairs = [(one, other) for one in model_lays(2) for other in model_lays(2)] + some_pairs(12, 30, 2)
        for one, other in pairs:
            lot = lot_of(one, other)
            self.assertEqual(strict(lot), strict(pieces(one, other)))
            self.assertIs(need_lot(lot), lot)
            self.assertEqual(lot_cost(lot), least_steps(one, other))
            self.assertEqual(lot_ways(lot), ways_of_lays(one, other))

    def test_lays_of_lots(self):
        for lot in MIDDLE + GREAT:
            self.assertIs(need_lot(lot), lot)
            pair = lays_of(lot)
            self.assertIsInstance(pair, tuple)
            self.assertEqual(strict(lot_of(*pair)), strict(lot))
            self.assertEqual(strict(lot_cost(lot)), strict(cost_of(lot)))

    def test_ways(self):
        for lot in SMALL + GREAT:
            one, other = lays_of(lot)
            self.assertEqual(strict(lot_ways(lot)), strict(ways_of_lays(one, other)), lot)

    def test_ways_that_the_document_tells(self):
        self.assertEqual(lot_ways((("ring", 2), ("ring", 2))), ())
        self.assertEqual(lot_ways((("ring", 6),)), (((("ring", 2), ("ring", 4)), 3),))
        self.assertEqual(lot_ways((("open", 2),)), (((("ring", 2),), 1),))
        self.assertEqual(lot_ways((("shut", 2),)), (((("odd", 1), ("odd", 1)), 1),))
        self.assertEqual(
            lot_ways((("shut", 4),)), (((("odd", 1), ("odd", 3)), 2), ((("ring", 2), ("shut", 2)), 1)),
        )
        self.assertEqual(
            lot_ways((("open", 2), ("shut", 2))),
            (
                ((("odd", 1), ("odd", 1), ("open", 2)), 1), ((("odd", 1), ("odd", 3)), 4),
                ((("ring", 2), ("shut", 2)), 1),
            ),
        )

    def test_numbers_and_products(self):
        known = {}
        for lot in MIDDLE + GREAT:
            self.assertEqual(strict(lot_count(lot)), strict(count_by_words(lot, known)), lot)
            self.assertEqual(strict(lot_product(lot)), strict(product_by_words(lot)), lot)
            if has_open_and_shut(lot):
                self.assertGreater(lot_count(lot), lot_product(lot))
            else:
                self.assertEqual(lot_count(lot), lot_product(lot))

    def test_least_histories_counted_one_by_one(self):
        for lot in model_lots(6):
            one, other = lays_of(lot)
            self.assertEqual(lot_count(lot), self.histories(one, other, {}))

    def histories(self, one, other, known):
        if one == other:
            return 1
        if one not in known:
            known[one] = sum(self.histories(lay_behind(one, step), other, known) for step in good_steps(one, other))
        return known[one]

    def test_one_piece(self):
        for cost in range(1, 13):
            kinds = [("open", 2 * cost), ("shut", 2 * cost)] + [("ring", 2 * cost + 2)] * (cost < 12)
            for piece in kinds:
                self.assertEqual(lot_count((piece,)), (cost + 1) ** (cost - 1))
        self.assertEqual(lot_count((("odd", 1),) * 2), 1)


class WrongLots(unittest.TestCase):
    def test_places(self):
        ring, odd = ("ring", 2), ("odd", 1)
        wrong = [
            (None, ()), (True, ()), (0, ()), ("ring", ()), (b"", ()), ([ring], ()), ((), ()), ([], ()), ({ring: 1}, ()),
            ((None,), (0,)), (ring, (0,)), ((["ring", 2],), (0,)), ((("ring",),), (0,)), ((("ring", 2, 2),), (0,)),
            ((("ring", 3),), (0,)), ((("ring", 0),), (0,)), ((("ring", -2),), (0,)), ((("ring", "2"),), (0,)),
            ((("ring", None),), (0,)), (((b"ring", 2),), (0,)), ((("Ring", 2),), (0,)), ((("line", 2),), (0,)),
            (((2, "ring"),), (0,)), (((["ring"], 2),), (0,)), ((("open", 1),), (0,)), ((("shut", 0),), (0,)),
            ((("odd", 2), odd), (0,)), ((("odd", 0),), (0,)), ((("odd", -1),), (0,)), ((("odd", True),), (0,)),
            ((("odd", True), odd), (0,)), ((odd, ("odd", True)), (1,)), ((("open", True),), (0,)),
            ((ring, None), (1,)), ((ring, ["odd", 1]), (1,)), ((ring, odd, odd), (1,)), ((ring, ("open", 2)), (1,)),
            ((("ring", 4), ring), (1,)), ((odd, odd, ("odd", 3), odd), (3,)), ((ring, ring, ("shut", 2), ring), (3,)),
            ((odd,), ()), ((odd, odd, odd), ()), ((odd, ring), ()), ((("ring", 26),), ()), ((ring,) * 13, ()),
            ((odd,) * 26, ()), ((odd,) * 25, ()), ((("odd", 25), ("odd", 25)), ()), ((("open", 10 ** 998),), ()),
            ((("odd", 10 ** 998 + 1),), ()), ((("ring", 26), None), (1,)), ((odd, None), (1,)),
        ]
        for lot, place in wrong:
            for call in (need_lot, lot_cost, lot_ways, lot_count, lot_product, lays_of):
                self.assertEqual(tells(call, lot), ("BadLot", {"place": place}), lot)

    def test_twenty_four_ends(self):
        for lot in GREAT:
            self.assertIs(need_lot(lot), lot)

    def test_spoiled_lots(self):
        known = {strict(lot) for lot in model_lots(10)}
        for lot in ((("odd", 1), ("odd", 3)), (("open", 2), ("ring", 4), ("shut", 2))):
            for value in list(spoiled(lot)) + truth_values(lot):
                if strict(value) in known:
                    self.assertIs(need_lot(value), value)
                elif isinstance(value, tuple) and value[1:] and self.ends(value) > 10:
                    continue
                else:
                    self.assertEqual(tells(need_lot, value)[0], "BadLot", value)

    def ends(self, value):
        try:
            return sum(size for _, size in value)
        except (TypeError, ValueError):
            return 0


if __name__ == "__main__":
    unittest.main()
