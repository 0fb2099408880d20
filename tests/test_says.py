"""doublecut.says, [56]."""

import random
import unittest

from doublecut.says import is_so, need_saying

from tests.helpers import (
    ODD_VALUES, WRONG_LAYS, model_away, model_kept_lays, model_lays, some_lay, spoiled, strict, tells, truth_values,
)

DRAW = random.Random(56)
FORMS = {
    "joined": "EE", "free": "E", "together": "KK", "lines": "N", "rings": "N", "away": "LN", "not": "S", "and": "SS",
    "or": "SS",
}
LAY = (3, ((0, 1), (2, 5)))
FREE = ("free", 3)


def chains_by_words(lay):
    """The lots of links that hang together, each with whether it is a ring."""
    lots = [{link} for link in range(lay[0])]
    for low, high in lay[1]:
        met = [lot for lot in lots if low // 2 in lot or high // 2 in lot]
        lots = [lot for lot in lots if lot not in met] + [set().union(*met)]
    joined = {end for joint in lay[1] for end in joint}
    return [(lot, all(2 * link in joined and 2 * link + 1 in joined for link in lot)) for lot in lots]


def so_by_words(lay, saying):
    word, *told = saying
    if word in ("not", "and", "or"):
        parts = [so_by_words(lay, part) for part in told]
        return {"not": not parts[0], "and": all(parts), "or": any(parts)}[word]
    if word == "joined":
        return tuple(sorted(told)) in lay[1]
    if word == "free":
        return all(told[0] not in joint for joint in lay[1])
    if word == "together":
        return any(set(told) <= lot for lot, _ in chains_by_words(lay))
    if word == "away":
        return model_away(told[0])[lay] == told[1]
    return told[0] == sum(ring == (word == "rings") for _, ring in chains_by_words(lay))


def is_whole(value, least, most):
    return isinstance(value, int) and not isinstance(value, bool) and least <= value <= most


def is_said(value, links):
    if not isinstance(value, tuple) or not value or not isinstance(value[0], str) or value[0] not in FORMS:
        return False
    kinds, told = FORMS[value[0]], value[1:]
    if len(kinds) != len(told):
        return False
    for kind, part in zip(kinds, told):
        if kind == "L" and strict(part) not in LAYS[links]:
            return False
        if kind in "EKN" and not is_whole(part, 0, {"E": 2 * links - 1, "K": links - 1, "N": 12}[kind]):
            return False
    return kinds not in ("EE", "KK") or told[0] != told[1]


LAYS = {links: {strict(lay) for lay in model_lays(links)} for links in (1, 2, 3)}


def path_by_words(value, links):
    """The path with which a value is refused, or None."""
    waiting = [((), value)]
    met = 0
    while waiting:
        path, part = waiting.pop(0)
        met += 1
        if met > 10 or len(path) > 4 or not is_said(part, links):
            return path
        inner = [(path + (at + 1,), part[at + 1]) for at, kind in enumerate(FORMS[part[0]]) if kind == "S"]
        waiting = inner + waiting
    return None


def drawn_saying(links, words, within=0):
    """A saying of at most so many words for so many links."""
    known = ["joined", "free", "lines", "rings", "away"] + ["together"] * (links > 1)
    word = DRAW.choice(known + ["not", "and", "or"] * 3 if words > 2 and within < 4 else known)
    if word == "not":
        return word, drawn_saying(links, words - 1, within + 1)
    if word in ("and", "or"):
        left = DRAW.randint(1, words - 2)
        parts = [drawn_saying(links, many, within + 1) for many in (left, words - 1 - left)]
        return (word, *parts)
    if word == "away":
        return word, DRAW.choice(model_kept_lays(links)), DRAW.randint(0, 3)
    if word in ("lines", "rings"):
        return word, DRAW.randint(0, 3)
    return (word, *DRAW.sample(range(links if word == "together" else 2 * links), len(FORMS[word])))


def even_saying(words, last=FREE):
    """A saying of 9 to 11 words, none within more than four others, with this as its last part."""
    if words == 9:
        return "or", ("and", FREE, FREE), ("or", FREE, ("or", FREE, last))
    last = last if words == 10 else ("not", last)
    return "or", ("and", FREE, ("not", FREE)), ("or", FREE, ("or", FREE, last))


class Sayings(unittest.TestCase):
    def test_each_word_by_words(self):
        for links in (1, 2, 3):
            ends, numbers = range(2 * links), range(links)
            sayings = [("joined", one, other) for one in ends for other in ends if one != other]
            sayings += [("free", end) for end in ends] + [(word, n) for word in ("lines", "rings") for n in range(13)]
            sayings += [("together", one, other) for one in numbers for other in numbers if one != other]
            sayings += [("away", lay, n) for lay in model_kept_lays(links)[::7] for n in (0, 1, 2, 3, 12)]
            for lay in model_kept_lays(links)[::1 if links < 3 else 3]:
                for saying in sayings:
                    self.assertIs(is_so(lay, saying), so_by_words(lay, saying), (lay, saying))
                    self.assertIs(need_saying(lay, saying), saying)

    def test_within_one_another(self):
        for links in (1, 2, 3):
            for words in range(1, 11):
                for _ in range(20):
                    saying = drawn_saying(links, words)
                    self.assertIsNone(path_by_words(saying, links))
                    for lay in [DRAW.choice(model_kept_lays(links)) for _ in range(4)]:
                        self.assertIs(is_so(lay, saying), so_by_words(lay, saying), (lay, saying))
                        self.assertIs(need_saying(lay, saying), saying)

    def test_four_links_and_twelve(self):
        lay = (4, ((0, 5), (1, 4), (3, 6)))
        for saying, so in ((("together", 0, 2), True), (("together", 2, 1), False), (("together", 3, 1), True),
                           (("lines", 1), True), (("rings", 1), True), (("lines", 4), False), (("rings", 0), False),
                           (("joined", 6, 3), True), (("joined", 6, 2), False), (("free", 7), True)):
            self.assertIs(is_so(lay, saying), so)
        great = some_lay(12, 8, 5)
        self.assertIs(is_so(great, ("away", great, 0)), True)
        self.assertIs(is_so((12, ()), ("away", great, 8)), True)
        self.assertIs(is_so((12, ()), ("lines", 12)), True)
        self.assertIs(is_so((12, tuple((2 * k, 2 * k + 1) for k in range(12))), ("rings", 12)), True)

    def test_not_and_or(self):
        yes, no = ("free", 3), ("free", 0)
        for saying, so in ((("not", yes), False), (("not", no), True), (("and", yes, yes), True),
            (("and", yes, no), False),
                           (("and", no, yes), False), (("or", no, no), False), (("or", no, yes), True),
                           (("or", yes, no), True), (("not", ("and", yes, ("not", no))), False)):
            self.assertIs(is_so(LAY, saying), so)


class Refused(unittest.TestCase):
    def test_lays_first(self):
        for call in (need_saying, is_so):
            for wrong, place in WRONG_LAYS:
                self.assertEqual(tells(call, wrong, None), ("BadLay", {"place": place}))

    def refused(self, saying, path):
        self.assertEqual(path_by_words(saying, 3), path, saying)
        for call in (need_saying, is_so):
            found = tells(call, LAY, saying)
            self.assertEqual(strict(found), strict(("BadSaying", {"path": path})), saying)

    def test_ten_words_and_eleven(self):
        self.assertIs(need_saying(LAY, even_saying(9))[0], "or")
        self.assertIs(need_saying(LAY, even_saying(10))[0], "or")
        for last in (FREE, None, ("free", 9), ("not", FREE)):
            self.refused(even_saying(11, last), (2, 2, 2, 1))
        # what is none ahead of the eleventh is refused first
        self.refused(even_saying(10, None), (2, 2, 2))
        self.refused(("or", None, even_saying(11)), (1,))

    def test_within_four_and_five(self):
        saying = FREE
        for deep in range(1, 8):
            saying = "not", saying
            if deep <= 4:
                self.assertIs(is_so(LAY, saying), deep % 2 == 0)
            else:
                self.refused(saying, (1,) * 5)
        for wrong in (None, (), ("free", 6), 5):
            for deep in range(8):
                saying = wrong
                for _ in range(deep):
                    saying = "not", saying
                self.refused(saying, (1,) * min(deep, 5))

    def test_the_whole_ahead_of_its_parts_from_left_to_right(self):
        wrong = ("free", 6)
        cases = [
            (wrong, ()), (("not", wrong), (1,)), (("and", wrong, None), (1,)), (("and", FREE, wrong), (2,)),
            (("and", wrong), ()), (("and", wrong, wrong, wrong), ()), (("or", ("not", wrong), wrong), (1, 1)),
            (("or", ("and", FREE, wrong), None), (1, 2)), (("or", ("and", FREE, FREE), ("not", None)), (2, 1)),
            (("or",), ()), (("not", FREE, FREE), ()), (("not",), ()), (("joined", 1, 1), ()), (("joined", 1), ()),
            (("together", 2, 2), ()), (("together", 0, 3), ()), (("joined", 0, 6), ()), (("joined", -1, 0), ()),
            (("lines", 13), ()), (("lines", -1), ()), (("rings", 13), ()), (("rings", None), ()), (("lines",), ()),
            (("away", LAY), ()), (("away", LAY, 13), ()), (("away", LAY, -1), ()), (("away", (2, ()), 0), ()),
            (("away", (4, ()), 0), ()), (("away", (3, ((0, 0),)), 0), ()), (("away", None, 0), ()),
            (("away", 0, LAY), ()), (("away", (True, ()), 0), ()), (("away", list(LAY), 0), ()),
            (("and", FREE, []), (2,)),
            (("not", ["free", 3]), (1,)), (("free", True), ()), (("joined", False, 1), ()), (("lines", True), ()),
            (("Free", 3), ()), ((b"free", 3), ()), (("free", "3"), ()), (("free ", 3), ()), (("not", "free"), (1,)),
            (("and", ("away", LAY, True), FREE), (1,)), (([], 1), ()), (({}, 1), ()), ((None, 3), ()),
            (("bare", 1), ()),
        ]
        for saying, path in cases:
            self.refused(saying, path)

    def test_the_greatest_numbers(self):
        for saying in (("lines", 12), ("rings", 12), ("away", LAY, 12), ("lines", 0), ("free", 5), ("together", 0, 2)):
            self.assertIs(need_saying(LAY, saying), saying)

    def test_odd_values(self):
        for value in ODD_VALUES:
            self.refused(value, ())
            self.refused(("and", FREE, value), (2,))
            for saying in (("free", value), ("joined", 4, value), ("together", 2, value), ("lines", value)):
                path = path_by_words(saying, 3)
                if path is None:
                    self.assertIs(is_so(LAY, saying), so_by_words(LAY, saying))
                else:
                    self.refused(saying, path)

    def test_spoiled(self):
        lay = (2, ((0, 3),))
        for saying in (("and", ("joined", 0, 3), ("not", ("away", lay, 1))), ("or", ("together", 0, 1), ("lines", 1))):
            for value in list(spoiled(saying)) + truth_values(saying):
                path = path_by_words(value, 2)
                wanted = ("BadSaying", {"path": path}) if path is not None else ("value", so_by_words(lay, value))
                self.assertEqual(strict(tells(is_so, lay, value)), strict(wanted), value)


if __name__ == "__main__":
    unittest.main()
