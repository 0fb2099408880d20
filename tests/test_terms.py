"""doublecut.terms, [54] and [55]."""

import random
import unittest

from doublecut.costs import least_steps
from doublecut.lays import is_lay
from doublecut.steps import all_steps, lay_behind
from doublecut.terms import deed_of, lay_of, need_term, step_of, terms_in

from tests.helpers import ODD_VALUES, WRONG_LAYS, model_lays, some_lay, spoiled, strict, tells, truth_values

DRAW = random.Random(54)
BARE = ("bare", 2)
# how many TERMS each word wants, and how many integers, up to which greatest one
FORMS = {
    "bare": (0, 1, 12), "line": (0, 1, 12), "ring": (0, 1, 12), "cross": (1, 2, 23), "cut": (1, 1, 23),
    "turn": (1, 1, 11), "swap": (1, 2, 11), "beside": (2, 0, 0), "out": (1, 1, 11),
}


class NoLay(Exception):
    pass


def told_lay(links, mates):
    return links, tuple(sorted({tuple(sorted(pair)) for pair in mates.items()}))


def mates_by_words(lay):
    return {end: mate for low, high in lay[1] for end, mate in ((low, high), (high, low))}


def lay_by_words(term):
    """The lay of what has the form of a term, by words; NoLay with the path."""
    return model_lay(term, ())


def model_lay(term, path):
    word, *told = term
    terms = FORMS[word][0]
    lays = [model_lay(part, path + (at + 1,)) for at, part in enumerate(told[:terms])]
    numbers = told[terms:]
    if word in ("bare", "line", "ring"):
        links = numbers[0]
        mates = {}
        for link in range(links):
            if word != "bare" and (link + 1 < links or word == "ring"):
                far, near = 2 * link + 1, 2 * ((link + 1) % links)
                mates[far], mates[near] = near, far
        return told_lay(links, mates)
    links, mates = lays[0][0], mates_by_words(lays[0])
    if word == "beside":
        if links + lays[1][0] > 12:
            raise NoLay(path)
        more = mates_by_words(lays[1]).items()
        return told_lay(links + lays[1][0], {**mates, **{2 * links + one: 2 * links + two for one, two in more}})
    many = 2 * links if word in ("cross", "cut") else links
    if any(number >= many for number in numbers):
        raise NoLay(path)
    if word == "cross":
        one, other = numbers
        if mates.get(one) == other:
            raise NoLay(path)
        left = [mates.pop(end) for end in numbers if end in mates]
        for end in left:
            del mates[end]
        mates[one], mates[other] = other, one
        if len(left) == 2:
            mates[left[0]], mates[left[1]] = left[1], left[0]
        return told_lay(links, mates)
    if word == "cut":
        if numbers[0] not in mates:
            raise NoLay(path)
        del mates[mates.pop(numbers[0])]
        return told_lay(links, mates)
    if word == "out":
        if links < 2:
            raise NoLay(path)
        near, far = 2 * numbers[0], 2 * numbers[0] + 1
        one, other = mates.pop(near, None), mates.pop(far, None)
        mates.pop(one, None)
        mates.pop(other, None)
        if one is not None and other is not None and one != far:
            mates[one], mates[other] = other, one
        return told_lay(links - 1, {a - 2 * (a > near): b - 2 * (b > near) for a, b in mates.items()})
    places = list(range(2 * links))
    if word == "turn":
        near, far = 2 * numbers[0], 2 * numbers[0] + 1
        places[near], places[far] = far, near
    else:
        one, other = numbers
        places[2 * one], places[2 * one + 1], places[2 * other], places[2 * other + 1] = (
            2 * other, 2 * other + 1, 2 * one, 2 * one + 1,
        )
    return told_lay(links, {places[a]: places[b] for a, b in mates.items()})


def is_whole(value, least, most):
    return isinstance(value, int) and not isinstance(value, bool) and least <= value <= most


def is_formed(value):
    if not isinstance(value, tuple) or not value or not isinstance(value[0], str) or value[0] not in FORMS:
        return False
    terms, numbers, most = FORMS[value[0]]
    told = value[1 + terms:]
    if len(value) != 1 + terms + numbers:
        return False
    return all(is_whole(number, 0 if terms else 1, most) for number in told) and len(set(told)) == len(told)


def path_by_words(value):
    """The path with which a value is refused, or None."""
    waiting = [((), value)]
    met = 0
    while waiting:
        path, part = waiting.pop(0)
        met += 1
        if met > 12 or len(path) > 4:
            return ()
        if not is_formed(part):
            return path
        terms = FORMS[part[0]][0]
        waiting = [(path + (at,), part[at]) for at in range(1, terms + 1)] + waiting
    try:
        lay_by_words(value)
    except NoLay as error:
        return error.args[0]
    return None


def drawn_term(words, within):
    """A term of at most so many words, perhaps one that has no lay."""
    word = DRAW.choice(list(FORMS)) if words > 1 and within < 4 else DRAW.choice(["bare", "line", "ring"])
    if word == "beside" and words < 3:
        word = "turn"
    terms, numbers, most = FORMS[word]
    told = DRAW.sample(range(0 if terms else 1, DRAW.choice((4, most)) + 1), numbers)
    if terms == 2:
        left = DRAW.randint(1, words - 2)
        return word, drawn_term(left, within + 1), drawn_term(words - 1 - left, within + 1)
    return (word, drawn_term(words - 1, within + 1), *told) if terms else (word, *told)


def even_term(words):
    """A term with just so many words, 11 to 13, none within more than three others."""
    half = "beside", ("bare", 1), ("bare", 1)
    left = "beside", half, half
    right = {3: half, 4: ("beside", ("turn", ("bare", 1), 0), ("bare", 1)), 5: ("beside", half, ("bare", 1))}
    return "beside", left, right[words - 8]


SOME = [drawn_term(words, 0) for words in range(1, 13) for _ in range(60)]


class Lays(unittest.TestCase):
    def test_each_word(self):
        line, ring = (4, ((1, 2), (3, 4), (5, 6))), (4, ((0, 7), (1, 2), (3, 4), (5, 6)))
        cases = [
            (("bare", 1), (1, ())), (("bare", 12), (12, ())), (("line", 1), (1, ())), (("line", 2), (2, ((1, 2),))),
            (("line", 4), line), (("line", 12), (12, tuple((2 * k + 1, 2 * k + 2) for k in range(11)))),
            (("ring", 1), (1, ((0, 1),))), (("ring", 2), (2, ((0, 3), (1, 2)))), (("ring", 4), ring),
            (("ring", 12), (12, ((0, 23), *((2 * k + 1, 2 * k + 2) for k in range(11))))),
            (("cross", ("bare", 2), 3, 0), (2, ((0, 3),))), (("cross", ("line", 2), 0, 3), (2, ((0, 3), (1, 2)))),
            (("cross", ("line", 2), 2, 0), (2, ((0, 2),))), (("cross", ("line", 4), 1, 5), (4,
            ((1, 5), (2, 6), (3, 4)))),
            (("cross", ("line", 4), 6, 2), (4, ((1, 5), (2, 6), (3, 4)))),
            (("cross", ("ring", 2), 0, 2), (2, ((0, 2), (1, 3)))), (("cross", ("ring", 1), 0, 1), None),
            (("cross", ("line", 2), 1, 2), None), (("cross", ("line", 2), 2, 1), None),
            (("cross", ("bare", 2), 0, 4), None), (("cut", ("line", 2), 1), (2, ())),
            (("cut", ("line", 2), 2), (2, ())),
            (("cut", ("line", 2), 0), None), (("cut", ("line", 2), 4), None), (("cut", ("ring", 1), 0), (1, ())),
            (("turn", ("line", 4), 1), (4, ((1, 3), (2, 4), (5, 6)))), (("turn", ("ring", 1), 0), (1, ((0, 1),))),
            (("turn", ("line", 2), 2), None), (("swap", ("line", 4), 0, 3), (4, ((0, 5), (2, 7), (3, 4)))),
            (("swap", ("line", 4), 3, 0), (4, ((0, 5), (2, 7), (3, 4)))), (("swap", ("line", 2), 0, 2), None),
            (("swap", ("cross", ("bare", 2), 0, 1), 1, 0), (2, ((2, 3),))),
            (("beside", ("ring", 1), ("line", 2)), (3, ((0, 1), (3, 4)))),
            (("beside", ("bare", 6), ("bare", 6)), (12, ())),
            (("beside", ("bare", 6), ("bare", 7)), None), (("beside", ("line", 12), ("bare", 1)), None),
            (("out", ("line", 4), 1), (3, ((1, 2), (3, 4)))), (("out", ("line", 4), 0), (3, ((1, 2), (3, 4)))),
            (("out", ("ring", 4), 3), (3, ((0, 5), (1, 2), (3, 4)))), (("out", ("ring", 2), 0), (1, ((0, 1),))),
            (("out", ("beside", ("ring", 1), ("bare", 1)), 0), (1, ())), (("out", ("bare", 2), 2), None),
            (("out", ("bare", 1), 0), None), (("out", ("ring", 1), 0), None),
        ]
        for term, lay in cases:
            if lay is None:
                self.assertEqual(tells(lay_of, term), ("BadTerm", {"path": ()}), term)
            else:
                self.assertEqual(strict(lay_of(term)), strict(lay), term)
                self.assertIs(need_term(term), term)
            self.assertEqual(path_by_words(term), () if lay is None else None)

    def test_one_within_another(self):
        good = 0
        for term in SOME:
            path = path_by_words(term)
            if path is None:
                good += 1
                self.assertEqual(strict(lay_of(term)), strict(lay_by_words(term)))
                self.assertTrue(is_lay(lay_of(term)))
                self.assertIs(need_term(term), term)
                inner = tuple(part for part in term[1:] if isinstance(part, tuple))
                self.assertEqual(strict(terms_in(term)), strict(inner))
            else:
                for call in (lay_of, need_term, terms_in):
                    self.assertEqual(tells(call, term), ("BadTerm", {"path": path}), term)
        self.assertGreater(good, 100)

    def test_terms_in(self):
        self.assertEqual(terms_in(("ring", 3)), ())
        self.assertEqual(terms_in(("cross", ("line", 2), 0, 3)), (("line", 2),))
        self.assertEqual(terms_in(("beside", ("cut", ("ring", 1), 0), BARE)), (("cut", ("ring", 1), 0), BARE))


class Bounds(unittest.TestCase):
    def test_twelve_words_and_thirteen(self):
        self.assertEqual(lay_of(even_term(11)), (6, ()))
        self.assertEqual(lay_of(even_term(12)), (6, ()))
        self.assertEqual(tells(lay_of, even_term(13)), ("BadTerm", {"path": ()}))
        # the 13th word is refused whatever it is, but what is no term ahead of it is refused first
        twelve = even_term(12)
        first = list(twelve)
        for last in (None, ("bare", 0), "bare", ("bare", 1), ()):
            thirteen = ("beside", twelve[1], ("beside", twelve[2][1], ("turn", last, 0)))
            self.assertEqual(tells(lay_of, ("turn", thirteen, 0)), ("BadTerm", {"path": ()}), last)
        first[1] = ("beside", None, first[1][2])
        self.assertEqual(tells(lay_of, tuple(first)), ("BadTerm", {"path": (1, 1)}))

    def test_within_four_and_five(self):
        term = ("bare", 3)
        for deep in range(1, 7):
            term = "turn", term, deep % 3
            if deep <= 4:
                self.assertEqual(lay_of(term), (3, ()))
            else:
                self.assertEqual(tells(lay_of, term), ("BadTerm", {"path": ()}))
        for wrong in (None, (), ("bare", 0), 5):
            for deep in range(8):
                term = wrong
                for _ in range(deep):
                    term = "turn", term, 0
                path = (1,) * deep if deep <= 4 else ()
                self.assertEqual(tells(need_term, term), ("BadTerm", {"path": path}))
        # what is no term ahead of it is refused first
        self.assertEqual(tells(lay_of, ("beside", ("bare", 13), term)), ("BadTerm", {"path": (1,)}))
        deep = ("turn", ("turn", ("turn", ("turn", ("turn", BARE, 0), 0), 0), 0), 12)
        self.assertEqual(tells(lay_of, deep), ("BadTerm", {"path": ()}))

    def test_the_form_of_the_whole_ahead_of_its_terms_and_their_lays_ahead_of_its_own(self):
        bad = ("cut", BARE, 0)
        cases = [
            (("turn", None, 12), ()), (("turn", ("turn", None, 12), 0), (1,)), (("cross", bad, 0, 99), ()),
            (("cross", bad, 0, 24), ()), (("cut", bad, 24), ()), (("turn", bad, 12), ()), (("swap", bad, 0, 12), ()),
            (("out", bad, 12), ()), (("cross", bad, 23, 0), (1,)), (("cut", bad, 23), (1,)), (("turn", bad, 11), (1,)),
            (("swap", bad, 11, 0), (1,)), (("out", bad, 11), (1,)),
            (("cross", bad, 0, 0), ()), (("cross", bad, 0, 9), (1,)), (("beside", bad, None), (2,)),
            (("beside", bad, bad), (1,)), (("beside", BARE, bad), (2,)), (("beside", ("turn", bad, 5), bad), (1, 1)),
            (("beside", ("turn", BARE, 5), bad), (1,)), (("beside", ("bare", 7), ("out", ("bare", 7), 9)), (2,)),
            (("beside", ("bare", 7), ("out", ("bare", 7), 6)), ()), (("swap", ("out", ("bare", 1), 0), 0, 1), (1,)),
            (("out", ("out", ("bare", 2), 0), 0), ()), (("turn", bad), ()), (("turn", bad, 0, 0), ()), (("bare",), ()),
            (("cross", BARE, 1, 1), ()), (("swap", BARE, 1, 1), ()), (("bare", 1, 1), ()), (("beside", BARE), ()),
        ]
        for term, path in cases:
            self.assertEqual(path_by_words(term), path, term)
            for call in (lay_of, need_term, terms_in):
                self.assertEqual(tells(call, term), ("BadTerm", {"path": path}), term)

    def test_integers(self):
        for word, (terms, numbers, most) in FORMS.items():
            least = 0 if terms else 1
            for at in range(numbers):
                told = [2] * numbers if numbers == 1 else [2, 3]
                for value in [*ODD_VALUES, least - 1, most + 1, most, least, "3", 3]:
                    told[at] = value
                    inner = ("line", 12),
                    term = (word, *inner[:terms], *told)
                    formed = is_whole(value, least, most) and len(set(map(strict, told))) == numbers
                    path = path_by_words(term)
                    self.assertTrue(formed or path == ())
                    wanted = ("BadTerm", {"path": path}) if path is not None else ("value", lay_by_words(term))
                    self.assertEqual(strict(tells(lay_of, term)), strict(wanted), term)

    def test_no_terms(self):
        for call in (lay_of, need_term, terms_in):
            for value in ODD_VALUES + [["bare", 1], ("Bare", 1), (b"bare", 1), ("bare", True), ("bare", "1"), (None, 1),
                                       (["bare"], 1), ({}, 1), ("bare ", 1), ("", 1), (("bare", 1),), ("bare", (1,))]:
                self.assertEqual(tells(call, value), ("BadTerm", {"path": ()}), value)
                self.assertEqual(tells(call, ("beside", BARE, value)), ("BadTerm", {"path": (2,)}))

    def test_spoiled(self):
        terms = [
            ("beside", ("cross", ("ring", 1), 0, 1), ("cut", ("line", 2), 1)), ("out", ("swap", BARE, 0, 1), 1),
            ("beside", ("cross", ("bare", 1), 0, 1), ("turn", ("ring", 1), 0)),
        ]
        for term in terms:
            for value in list(spoiled(term)) + truth_values(term):
                path = path_by_words(value)
                wanted = ("BadTerm", {"path": path}) if path is not None else ("value", lay_by_words(value))
                self.assertEqual(strict(tells(lay_of, value)), strict(wanted), value)


def deeds_by_words(lay):
    """All DEEDS at a lay with the lays behind them, ascending."""
    links = lay[0]
    mates = mates_by_words(lay)
    found = []
    for one in range(2 * links):
        if one in mates:
            left = {end: mate for end, mate in mates.items() if end not in (one, mates[one])}
            found.append((("cut", one), told_lay(links, left)))
        for other in range(2 * links):
            if one != other and mates.get(one) != other:
                ends = [end for end in (one, other) if end in mates]
                left = {a: b for a, b in mates.items() if a not in ends and b not in ends}
                left[one] = other
                if len(ends) == 2:
                    left[mates[one]] = mates[other]
                found.append((("cross", one, other), told_lay(links, left)))
    return sorted(found)


class Deeds(unittest.TestCase):
    def test_all_deeds_against_all_steps(self):
        for lay in model_lays(1) + model_lays(2) + model_lays(3)[::2] + [some_lay(12, 7, 3)]:
            least = {}
            for deed, behind in deeds_by_words(lay):
                step = step_of(lay, deed)
                self.assertEqual(strict(lay_behind(lay, step)), strict(behind))
                least.setdefault(step, deed)
            self.assertEqual(sorted(least), list(all_steps(lay)))
            for step, deed in least.items():
                self.assertEqual(strict(deed_of(lay, step)), strict(deed))

    def test_what_the_document_tells(self):
        lay = (2, ((1, 2),))
        self.assertEqual(step_of(lay, ("cross", 3, 0)), ((), ((0, 3),)))
        self.assertEqual(step_of(lay, ("cross", 2, 0)), (((1, 2),), ((0, 2),)))
        self.assertEqual(step_of(lay, ("cut", 2)), (((1, 2),), ()))
        self.assertEqual(deed_of(lay, (((1, 2),), ())), ("cut", 1))
        self.assertEqual(deed_of(lay, (((1, 2),), ((2, 3),))), ("cross", 2, 3))
        ring = (2, ((0, 3), (1, 2)))
        self.assertEqual(deed_of(ring, (((0, 3), (1, 2)), ((0, 2), (1, 3)))), ("cross", 0, 2))

    def test_deeds_within_terms(self):
        for lay, term in (((3, ((1, 2), (3, 4))), ("line", 3)), ((3, ((0, 5), (1, 2), (3, 4))), ("ring", 3))):
            for (word, *ends), behind in deeds_by_words(lay):
                self.assertEqual(lay_of((word, term, *ends)), behind)

    def test_no_deeds(self):
        lay = (2, ((1, 2),))
        for value in ODD_VALUES + [
            ("cross", 1, 2), ("cross", 2, 1), ("cross", 0, 0), ("cross", 0, 4), ("cross", 4, 0), ("cross", -1, 0),
            ("cross", 0), ("cross", 0, 2, 3), ("cross",), ["cross", 0, 2], ("cut", 0), ("cut", 3), ("cut", 4), ("cut",),
            ("cut", 1, 2), ("cut", -1), ("cut", True), ("cross", False, 2), ("cross", 0, True), ("cross", "0", "2"),
            ("cut", "1"), ("cut", None), ("Cut", 1), (b"cut", 1), "cut", ["cut", 1], ("cut", (1,)), ("cut", [1]),
            ("cut", 10 ** 999), ("cross", 0, 10 ** 999), ("cross", None, None),
            (("cut", 1),), ("cross", ("bare", 2), 0, 2),
            ("cut", {}), ({}, 1), ([], 1, 2), (None, 0, 2), ("turn", 0),
        ]:
            self.assertEqual(strict(tells(step_of, lay, value)), strict(("BadStep", {"value": value})))
        for deed in (("cross", 0, 2), ("cut", 2), ("cross", 0, 3)):
            for value in spoiled(deed):
                found = tells(step_of, lay, value)
                known = {strict(told): behind for told, behind in deeds_by_words(lay)}
                if strict(value) in known:
                    self.assertEqual(lay_behind(lay, found[1]), known[strict(value)])
                else:
                    self.assertEqual(strict(found), strict(("BadStep", {"value": value})))

    def test_no_steps(self):
        lay = (2, ((1, 2),))
        for value in ODD_VALUES + [((), ((1, 2),)), (((1, 2),), ((1, 2),)), [(), ((0, 3),)], (((0, 3),), ()), ((), ())]:
            self.assertEqual(strict(tells(deed_of, lay, value)), strict(("BadStep", {"value": value})))

    def test_lays_are_refused_first(self):
        for call in (step_of, deed_of):
            for wrong, place in WRONG_LAYS:
                self.assertEqual(tells(call, wrong, None), ("BadLay", {"place": place}))


class Facts(unittest.TestCase):
    def test_turned_and_swapped_and_out_and_beside(self):
        terms = [term for term in SOME if path_by_words(term) is None]
        by_links = {}
        for term in terms:
            by_links.setdefault(lay_of(term)[0], []).append(term)
        met = 0
        for links, group in by_links.items():
            for one, other in zip(group, group[1:]):
                away = least_steps(lay_of(one), lay_of(other))
                pairs = [tells(lay_of, ("turn", term, 0)) for term in (one, other)]
                pairs += [tells(lay_of, ("swap", term, 0, links - 1)) for term in (one, other)]
                for first, second in (pairs[:2], pairs[2:]):
                    if first[0] == second[0] == "value":
                        self.assertEqual(least_steps(first[1], second[1]), away)
                        met += 1
                first, second = [tells(lay_of, ("out", term, 0)) for term in (one, other)]
                if first[0] == second[0] == "value":
                    self.assertLessEqual(least_steps(first[1], second[1]), away)
                first, second = [tells(lay_of, ("beside", term, BARE)) for term in (one, other)]
                if first[0] == second[0] == "value":
                    self.assertLessEqual(least_steps(first[1], second[1]), away)
        self.assertGreater(met, 50)


if __name__ == "__main__":
    unittest.main()
