"""doublecut.sheets, [58] and [59]."""

import random
import unittest

from doublecut.good import good_steps
from doublecut.lays import without
from doublecut.least import least_count
from doublecut.sheets import judged, lay_told
from doublecut.steps import all_steps
from doublecut.terms import lay_of

from tests.helpers import (
    ODD_VALUES, distances, model_away, model_behind, model_kept_lays, model_least, some_lay, strict, tells,
)
from tests.test_says import drawn_saying, so_by_words
from tests.test_terms import SOME, deeds_by_words, even_term, path_by_words
from tests.texts import false_place, respelled, some_word, text_by_words, word_of

DRAW = random.Random(58)
GOOD_TERMS = [term for term in SOME if path_by_words(term) is None]
SMALL_TERMS = [term for term in GOOD_TERMS if lay_of(term)[0] <= 3]
NO_STRINGS = [value for value in ODD_VALUES if not isinstance(value, str)] + [["bare 1"], b"bare 1", ("bare 1",)]
BASE = "line 3"
LAY = (3, ((1, 2), (3, 4)))


def judged_alone(verdict, text=BASE):
    """What is judged of one VERDICT."""
    told = judged(text + "\n" + verdict)
    assert isinstance(told, tuple) and len(told) == 1
    return told[0]


def row_by_words(lay, deeds):
    """The lay behind deeds, or None."""
    for deed in deeds:
        lay = dict(deeds_by_words(lay)).get(deed)
        if lay is None:
            return None
    return lay


def deeds_text(deeds):
    return "".join(" " + " ".join(map(str, deed)) for deed in deeds)


class Lays(unittest.TestCase):
    def test_a_term_alone(self):
        for term in GOOD_TERMS + [even_term(12)]:
            text = text_by_words(term)
            self.assertEqual(strict(lay_told(text)), strict(lay_of(term)))
            self.assertEqual(strict(judged(text)), "()")

    def test_with_verdicts(self):
        for verdict in ("links 3", "links 4", "say free 0", "row 1.2.3", "is o1", "good 1 0", "ways o1 5", "steps 0"):
            self.assertEqual(lay_told("line 3\n" + verdict), LAY)
            self.assertEqual(lay_told("line 3\n" + verdict + "\n" + verdict), LAY)


class Verdicts(unittest.TestCase):
    def test_links_and_steps(self):
        for term in GOOD_TERMS:
            lay, text = lay_of(term), text_by_words(term)
            for count in range(14):
                self.assertIs(judged_alone("links " + str(count), text), count == lay[0])
            steps = len(all_steps(lay))
            for count in (steps - 1, steps, steps + 1):
                self.assertIs(judged_alone("steps " + str(abs(count)), text), count == steps)

    def test_is(self):
        for term in SMALL_TERMS[::4]:
            lay, text = lay_of(term), text_by_words(term)
            for other in model_kept_lays(lay[0])[::3] + [lay]:
                self.assertIs(judged_alone("is " + some_word(other, DRAW), text), other == lay)
            for other in (some_lay(lay[0] + 1, 0, 1), some_lay(12, 5, 1)):
                self.assertIs(judged_alone("is " + word_of(other), text), False)

    def test_say(self):
        for term in SMALL_TERMS[::3]:
            lay, text = lay_of(term), text_by_words(term)
            for words in range(1, 11):
                saying = drawn_saying(lay[0], words)
                self.assertIs(judged_alone("say " + text_by_words(saying), text), so_by_words(lay, saying))

    def test_good_and_ways(self):
        for term in SMALL_TERMS[::5]:
            lay, text = lay_of(term), text_by_words(term)
            for other in [DRAW.choice(model_kept_lays(lay[0])) for _ in range(5)] + [lay]:
                away = model_away(other)
                good = sum(away[met] == away[lay] - 1 for _, met in model_behind(lay))
                ways = len(model_least(lay, other))
                word = some_word(other, DRAW)
                for count in (0, good - 1, good, good + 1, ways):
                    self.assertIs(judged_alone("good {} {}".format(word, abs(count)), text), abs(count) == good)
                for count in (0, ways - 1, ways, ways + 1, good):
                    self.assertIs(judged_alone("ways {} {}".format(word, abs(count)), text), abs(count) == ways)

    def test_many_links(self):
        for seed in range(3):
            goal = some_lay(12, 4 * seed, seed)
            lay = lay_told("line 12")
            good, ways = len(good_steps(lay, goal)), least_count(lay, goal)
            self.assertIs(judged_alone("good {} {}".format(word_of(goal), good), "line 12"), True)
            if ways < 10 ** 9:
                self.assertIs(judged_alone("ways {} {}".format(word_of(goal), ways), "line 12"), True)
            self.assertIs(judged_alone("ways {} 999999999".format(word_of(goal)), "line 12"), ways == 999999999)

    def test_lays_of_another_number_of_links(self):
        for word in ("1", "o1", "1.2", "1.2.3.4", "1/2/3/4/5/6/7/8/9/10/11/12"):
            for verdict in ("is " + word, "good " + word + " 0", "ways " + word + " 0", "ways " + word + " 1",
                            "row " + word, "row " + word + " cut 1", "good " + word + " 1"):
                self.assertIs(judged_alone(verdict), False, verdict)

    def test_rows(self):
        for term in SMALL_TERMS[::4]:
            lay, text = lay_of(term), text_by_words(term)
            for many in range(5):
                deeds, here = [], lay
                for _ in range(many):
                    deed, here = DRAW.choice(deeds_by_words(here))
                    deeds.append(deed)
                for goal in (here, lay, DRAW.choice(model_kept_lays(lay[0]))):
                    so = judged_alone("row " + some_word(goal, DRAW) + deeds_text(deeds), text)
                    self.assertIs(so, goal == row_by_words(lay, deeds))
                wrong = deeds + [DRAW.choice([("cut", 99), ("cross", 0, 0), ("cross", 24, 1), ("cut", 2 * lay[0])])]
                self.assertIs(judged_alone("row " + word_of(here) + deeds_text(wrong), text), False)
                self.assertIs(judged_alone("row " + word_of(here) + deeds_text(wrong[::-1]), text), False)

    def test_what_the_document_tells(self):
        cases = [
            ("row 1.2.3", True), ("row o1.2.3 cross 0 5", True), ("row o1.2.3 cross 5 0", True), ("row o1.2.3", False),
            ("row 1/2.3 cut 1", True), ("row 1/2.3 cut 2", True), ("row 1/2.3 cut 0", False),
            ("row 1/2/3 cut 1 cut 4", True),
            ("row 1/2/3 cut 1 cut 1", False), ("row 1.2.3 cross 1 2", False), ("row 1.2.3 cut 1 cross 1 2", True),
            ("row 1.2.3 cut 6", False), ("row 1.2.3 cross 0 6", False), ("row 1.2.3 cross 0 0", False),
            ("row 1.2.3 cut 99", False), ("row 1.2.3 cross 99 99", False), ("is 1.2.3", True), ("is -3.-2.-1", True),
            ("is 3.2.1", False), ("links 3", True), ("links 999999999", False), ("steps 13", True), ("steps 12", False),
            ("say lines 1", True), ("say not lines 1", False), ("say away -3.-2.-1 0", True), ("good 1.2.3 0", True),
            ("ways 1.2.3 1", True), ("ways 1.2.3 0", False), ("good o1.2.3 1", True), ("ways o1.2.3 1", True),
            ("ways o3/o1/o2 15", False), ("ways o3/o1/o2 16", True),
        ]
        for verdict, so in cases:
            self.assertIs(judged_alone(verdict), so, verdict)
        text = "\n".join([BASE] + [verdict for verdict, _ in cases])
        self.assertEqual(strict(judged(text)), strict(tuple(so for _, so in cases)))
        self.assertEqual(lay_told(text), LAY)
        self.assertEqual(without(lay_told(text), 2), lay_told("line 2"))

    def test_sixty_deeds_and_sixty_one(self):
        both = " cut 1 cross 1 2"
        self.assertIs(judged_alone("row 1.2.3" + 30 * both), True)
        self.assertIs(judged_alone("row 1/2.3" + 29 * both + " cut 1"), True)
        text = "line 3\nrow 1.2.3" + 30 * both
        at = len(text.split("\n")[1].split(" "))
        for more in (" cut 1", " cross 1 2", " x", " ", " cut", " 1"):
            self.assertEqual(tells(judged, text + more), ("BadText", {"line": 1, "word": at}))
        self.assertEqual(tells(judged, text[:-2]), ("BadText", {"line": 1, "word": at - 1}))


class Refused(unittest.TestCase):
    def both(self, text, wanted):
        for call in (lay_told, judged):
            self.assertEqual(tells(call, text), wanted, text)

    def test_respelled(self):
        texts = [
            "bare 2", "cross 0 3 line 2\nlinks 2\nis o1.2", "line 2\nsteps 5\nsay or free 0 not away 1/2 1",
            "ring 2\ngood 1/2 2\nways 1.2 1", "line 3\nrow o1.2.3 cut 1 cross 1 2 cross 0 5\nrow 1.2.3",
        ]
        for text in texts:
            for other in respelled(text):
                place = false_place(other, "H")
                if place is not None:
                    self.both(other, ("BadText", {"line": place[0], "word": place[1]}))
                else:
                    found = tells(judged, other)
                    self.assertIn(found[0], ("value", "BadTerm", "BadSaying"), other)
                    if found[0] == "value":
                        self.assertEqual(len(found[1]), other.count("\n"))
                    else:
                        self.assertEqual(tells(lay_told, other), found)

    def test_places(self):
        cases = [
            ("", 0, 0), ("\n", 0, 0), ("\nlinks 1", 0, 0), ("line 3\n", 1, 0), ("line 3\nlinks 3\n", 2, 0),
            ("line 3\n\nlinks 3", 1, 0), (" line 3", 0, 0), ("line 3 ", 0, 2), ("line 3\n links 3", 1, 0),
            ("line 3\nlinks 3 ", 1, 2), ("line 3\nlinks  3", 1, 1), ("line 3\nlinks", 1, 1), ("line\nlinks", 0, 1),
            ("line 3\nlinks 03", 1, 1), ("line 3\nlinks 1234567890", 1, 1), ("line 3\nlinks -3", 1, 1),
            ("line 3\nsteps 1000000000", 1, 1), ("line 3\ngood 1.2.3 1234567890", 1, 2), ("line 3\nways 1.2.3", 1, 2),
            ("line 3\ngood 3", 1, 1), ("line 3\nis 1.2.3 0", 1, 2), ("line 3\nis 1.2.2", 1, 1), ("line 3\nis", 1, 1),
            ("line 3\nsay lines 100", 1, 2), ("line 3\nsay", 1, 1), ("line 3\nsay not", 1, 2),
            ("line 3\nsay free 1 2", 1, 3),
            ("line 3\nsay away 1.1 0", 1, 2), ("line 3\nrow", 1, 1), ("line 3\nrow 1.2.3 cut", 1, 3),
            ("line 3\nfree 1", 1, 0),
            ("line 3\nrow 1.2.3 cut 100", 1, 3), ("line 3\nrow 1.2.3 cross 1", 1, 4),
            ("line 3\nrow 1.2.3 turn 1", 1, 2),
            ("line 3\nrow 1.2.3 ", 1, 2), ("line 3\nline 3", 1, 0), ("line 3\nsays lines 1", 1, 0),
            ("bare 100\nx", 0, 1),
            ("cut 0 bare 1\nlinks", 1, 1), ("line 3\nsay lines 13\nx", 2, 0), ("bare 13\n", 1, 0),
            ("line 3\nsay " + "and " * 11, 1, 11), ("turn 0 " * 13 + "\n", 0, 24), ("line 3\r\nlinks 3", 0, 1),
        ]
        for text, line, word in cases:
            self.assertEqual(false_place(text, "H"), (line, word), text)
            self.both(text, ("BadText", {"line": line, "word": word}))

    def test_figures(self):
        for figures in ("0", "3", "999999999", "123456789"):
            self.assertIs(judged_alone("links " + figures), figures == "3")
        self.assertIs(judged_alone("say lines 12"), False)
        self.both("line 3\nsay lines 99", ("BadSaying", {"path": ()}))

    def test_terms_behind_all_lines(self):
        for text, path in (("bare 13", ()), ("cut 0 bare 1\nlinks 1", ()), ("beside bare 1 cut 0 bare 1", (2,)),
                           ("cut 0 bare 1\nsay free 99", ()), ("turn 0 turn 0 turn 0 turn 0 turn 0 bare 1", ())):
            self.both(text, ("BadTerm", {"path": path}))

    def test_the_first_saying_that_is_none(self):
        for verdicts, path in ((["say free 6"], ()), (["links 9", "say not free 6", "say free 6"], (1,)),
                               (["say free 5", "say and free 5 free 6"], (2,)), (["say away 1.2 0"], ()),
                               (["row 1 cut 99", "say or free 0 not away 1.2.3.4 1"], (2, 1)),
                               (["say not not not not not free 0"], (1,) * 5), (["say lines 13"], ())):
            self.both("\n".join([BASE] + verdicts), ("BadSaying", {"path": path}))

    def test_no_strings(self):
        for value in NO_STRINGS:
            self.both(value, ("BadText", {"line": None, "word": None}))


class Model(unittest.TestCase):
    def test_the_number_of_ways_above(self):
        # three joints are cut and made to rings, in turn: by a search over all steps
        goal = (3, ((0, 1), (2, 3), (4, 5)))
        away = distances(goal, lambda here: [met for _, met in model_behind(here)])
        self.assertEqual((away[LAY], len(model_least(LAY, goal))), (3, 16))


if __name__ == "__main__":
    unittest.main()
