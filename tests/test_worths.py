"""doublecut.worths, [49] and [50]."""

import random
import unittest

from doublecut.worths import common, need_worths, worth_of, worths_of

from tests.helpers import (
    ODD_VALUES, WRONG_LAYS, model_kept_lays, model_lays, some_lay, some_pairs, spoiled, strict, tells,
)

DRAW = random.Random(49)
PLAIN = ((0, 3, 24, 1), ((0, 1, 24), (0, 2, 1), (1, 2, 7), (2, 3, 5)))


def drawn_worths(links, draw, most=24, free=24):
    ends = range(2 * links)
    share = draw.random()
    joints = [(low, high) for low in ends for high in ends if low < high and draw.random() < share]
    return tuple(draw.randint(0, free) for _ in ends), tuple((*joint, draw.randint(1, most)) for joint in joints)


def worth_by_words(worths, lay):
    frees, pairs = worths
    joined = {end for joint in lay[1] for end in joint}
    worth = sum(told for low, high, told in pairs if (low, high) in lay[1])
    return worth + sum(told for end, told in enumerate(frees) if end not in joined)


def is_free(lay, end):
    return all(end not in joint for joint in lay[1])


def is_whole(value, least, most):
    return isinstance(value, int) and not isinstance(value, bool) and least <= value <= most


def place_by_words(value):
    """The place at which a value is refused, or None."""
    if not isinstance(value, tuple) or len(value) != 2:
        return ()
    frees, pairs = value
    if not isinstance(frees, tuple) or len(frees) not in (2, 4, 6, 8, 10, 12):
        return (0,)
    if not all(is_whole(worth, 0, 24) for worth in frees):
        return (0,)
    if not isinstance(pairs, tuple):
        return (1,)
    last = -1, -1
    for number, told in enumerate(pairs):
        if not isinstance(told, tuple) or len(told) != 3 or not all(is_whole(part, 0, 24) for part in told):
            return 1, number
        low, high, worth = told
        if not low < high < len(frees) or worth == 0 or (low, high) <= last:
            return 1, number
        last = low, high
    return None


class Worths(unittest.TestCase):
    def test_they_are_told_back(self):
        for links in range(1, 7):
            for _ in range(5):
                worths = drawn_worths(links, DRAW)
                self.assertIs(need_worths(worths), worths)
        for worths in (PLAIN, ((0, 0), ()), ((24,) * 12, ((0, 11, 1), (10, 11, 24)))):
            self.assertIs(need_worths(worths), worths)

    def test_places(self):
        frees = (1, 2, 3, 4)
        cases = [
            ([frees, ()], ()), ((frees,), ()), ((frees, (), ()), ()), ((), ()), (((), ()), (0,)),
            ((list(frees), ()), (0,)),
            (((1,), ()), (0,)), (((1, 2, 3), None), (0,)), (((0,) * 14, ()), (0,)), (((0,) * 13, ()), (0,)),
            (((0, 25), ()), (0,)), (((0, -1), ()), (0,)), (((0, True), ()), (0,)), (((0, None), ()), (0,)),
            (((0, "1"), ()), (0,)), (((0, (1,)), None), (0,)), (((0, 10 ** 999), ()), (0,)), (("ab", ()), (0,)),
            ((b"ab", ()), (0,)), (({0: 1, 1: 1}, ()), (0,)), ((None, ()), (0,)), ((5, ()), (0,)),
            ((frees, []), (1,)), ((frees, None), (1,)), ((frees, "ab"), (1,)), ((frees, [(0, 1, 2)]), (1,)),
            ((frees, 0), (1,)), ((frees, True), (1,)), ((frees, {}), (1,)), ((frees, b""), (1,)),
            ((frees, (None,)), (1, 0)), ((frees, ([0, 1, 2],)), (1, 0)), ((frees, ((0, 1),)), (1, 0)),
            ((frees, ((0, 1, 2, 3),)), (1, 0)), ((frees, ((0, 0, 1),)), (1, 0)), ((frees, ((1, 0, 1),)), (1, 0)),
            ((frees, ((0, 4, 1),)), (1, 0)), ((frees, ((-1, 0, 1),)), (1, 0)), ((frees, ((0, 1, 0),)), (1, 0)),
            ((frees, ((0, 1, 25),)), (1, 0)), ((frees, ((0, 1, -1),)), (1, 0)), ((frees, ((0, 1, True),)), (1, 0)),
            ((frees, ((False, 1, 1),)), (1, 0)), ((frees, ((0, True, 1),)), (1, 0)), ((frees, ("012",)), (1, 0)),
            ((frees, (((0, 1), 1),)), (1, 0)), ((frees, ((0, 1, None),)), (1, 0)), ((frees, ((0, 1, (1,)),)), (1, 0)),
            ((frees, ((0, 1, 10 ** 999),)), (1, 0)), ((frees, (0, 1, 2)), (1, 0)), ((frees,
            ((0, 1, 1), (0, 1, 2))), (1, 1)),
            ((frees, ((0, 2, 1), (0, 1, 2))), (1, 1)), ((frees, ((0, 1, 1), (1, 2, 1), (0, 3, 9))), (1, 2)),
            ((frees, ((0, 1, 1), (1, 2, 1), (1, 2, 1))), (1, 2)), ((frees, ((2, 3, 24), None, (0, 1, 25))), (1, 1)),
        ]
        for value, place in cases:
            self.assertEqual(place_by_words(value), place, value)
            wanted = ("BadWorths", {"place": place})
            for call, rest in ((need_worths, []), (worth_of, [None])):
                self.assertEqual(strict(tells(call, value, *rest)), strict(wanted), value)
        for value in ODD_VALUES:
            wanted = ("BadWorths", {"place": place_by_words(value)})
            self.assertEqual(tells(need_worths, value), wanted)

    def test_the_least_and_the_greatest_worth(self):
        for worth in (0, 24):
            self.assertEqual(worth_of(((worth, 0), ()), (1, ())), worth)
        for worth in (-1, 25):
            self.assertEqual(tells(need_worths, ((worth, 0), ())), ("BadWorths", {"place": (0,)}))
        for worth in (1, 24):
            self.assertEqual(worth_of(((0, 0), ((0, 1, worth),)), (1, ((0, 1),))), worth)
        for worth in (0, 25):
            self.assertEqual(tells(need_worths, ((0, 0), ((0, 1, worth),))), ("BadWorths", {"place": (1, 0)}))

    def test_spoiled(self):
        for worths in (PLAIN, ((1, 0), ((0, 1, 1),))):
            for value in spoiled(worths):
                place = place_by_words(value)
                found = tells(need_worths, value)
                if place is None:
                    self.assertEqual(strict(found), strict(("value", value)))
                else:
                    self.assertEqual(strict(found), strict(("BadWorths", {"place": place})), value)


class WorthOf(unittest.TestCase):
    def test_each_lay(self):
        for links in (1, 2, 3):
            for _ in range(8):
                worths = drawn_worths(links, DRAW)
                for lay in model_lays(links):
                    self.assertEqual(strict(worth_of(worths, lay)), strict(worth_by_words(worths, lay)))
        for links in (4, 5, 6):
            for _ in range(20):
                worths, lay = drawn_worths(links, DRAW), some_lay(links, DRAW.randint(0, links), DRAW.random())
                self.assertEqual(worth_of(worths, lay), worth_by_words(worths, lay))

    def test_what_the_document_tells(self):
        self.assertEqual(worth_of(PLAIN, (2, ())), 28)
        self.assertEqual(worth_of(PLAIN, (2, ((0, 1), (2, 3)))), 29)
        # a joint that is in no triple is worth 0
        self.assertEqual(worth_of(PLAIN, (2, ((0, 3),))), 27)

    def test_lays(self):
        for wrong, place in WRONG_LAYS:
            self.assertEqual(tells(worth_of, PLAIN, wrong), ("BadLay", {"place": place}))
        for lay in ((1, ()), (3, ()), (12, ())):
            self.assertEqual(tells(worth_of, PLAIN, lay), ("Unlike", {}))


class Several(unittest.TestCase):
    def test_the_fact(self):
        for links in (1, 2, 3):
            for many in (1, 2, 3, 6):
                for _ in range(3):
                    several = tuple(DRAW.choice(model_kept_lays(links)) for _ in range(many))
                    worths = need_worths(worths_of(several))
                    for lay in model_lays(links)[::2]:
                        self.assertEqual(worth_of(worths, lay), sum(common(lay, other) for other in several))

    def test_by_words(self):
        for links in (1, 3, 6):
            for many in range(1, 7):
                several = tuple(some_lay(links, DRAW.randint(0, links), DRAW.random()) for _ in range(many))
                ends = range(2 * links)
                frees = tuple(sum(is_free(lay, end) for lay in several) for end in ends)
                counts = {
                    (low, high): sum((low, high) in lay[1] for lay in several) for low in ends for high in ends
                }
                pairs = tuple((*joint, 2 * count) for joint, count in sorted(counts.items()) if count)
                self.assertEqual(strict(worths_of(several)), strict((frees, pairs)))
        lay = (1, ((0, 1),))
        self.assertEqual(worths_of((lay,) * 6), ((0, 0), ((0, 1, 12),)))
        self.assertEqual(worths_of((lay, (1, ()), (1, ()))), ((2, 2), ((0, 1, 2),)))
        self.assertEqual(worths_of(((6, ()),)), ((1,) * 12, ()))

    def test_six_links_and_seven(self):
        for links in (7, 8, 12):
            several = ((links, ()), (links, ((0, 1),)))
            self.assertEqual(tells(worths_of, several), ("TooGreat", {"most": 6}))
            self.assertEqual(tells(worths_of, several[:1]), ("TooGreat", {"most": 6}))
            self.assertEqual(tells(worths_of, several + ((6, ()),)), ("Unlike", {}))
            self.assertEqual(tells(worths_of, several + (None,)), ("BadSeveral", {"place": 2}))

    def test_refused(self):
        for value in ODD_VALUES:
            place = 0 if isinstance(value, tuple) and value else None
            self.assertEqual(tells(worths_of, value), ("BadSeveral", {"place": place}))


class Common(unittest.TestCase):
    def test_by_words(self):
        pairs = [(one, other) for links in (1, 2) for one in model_lays(links) for other in model_lays(links)]
        for one, other in pairs + some_pairs(3, 60, 5) + some_pairs(12, 20, 6):
            both = sum(is_free(one, end) and is_free(other, end) for end in range(2 * one[0]))
            wanted = 2 * len(set(one[1]) & set(other[1])) + both
            self.assertEqual(strict(common(one, other)), strict(wanted))
            self.assertEqual(common(other, one), wanted)
            self.assertEqual(common(one, one), 2 * one[0])

    def test_refused(self):
        for wrong, place in WRONG_LAYS:
            self.assertEqual(tells(common, wrong, None), ("BadLay", {"place": place}))
            self.assertEqual(tells(common, (2, ()), wrong), ("BadLay", {"place": place}))
        self.assertEqual(tells(common, (2, ()), (3, ())), ("Unlike", {}))


if __name__ == "__main__":
    unittest.main()
