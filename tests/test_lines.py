"""doublecut.lines, [57] and [59]."""

import random
import unittest

from doublecut.lines import lay_word, read_lay, read_saying, read_term, saying_text, term_text
from doublecut.terms import need_term

from tests.helpers import ODD_VALUES, WRONG_LAYS, model_lays, some_lay, strict, tells
from tests.test_says import drawn_saying, even_saying, path_by_words as saying_path
from tests.test_terms import SOME, even_term, path_by_words as term_path
from tests.texts import ODD_WORDS, SAYINGS, TERMS, false_place, is_word, respelled, some_lays, some_word, text_by_words
from tests.texts import word_of

DRAW = random.Random(57)
NO_STRINGS = [value for value in ODD_VALUES if not isinstance(value, str)] + [["bare 1"], b"bare 1", ("bare 1",)]
LAY = (3, ((0, 1), (2, 5)))
GOOD_TERMS = [term for term in SOME if term_path(term) is None]
READERS = [(read_lay, []), (read_term, []), (read_saying, [LAY])]


class Lays(unittest.TestCase):
    def test_there_and_back(self):
        for lay in model_lays(1) + model_lays(2) + model_lays(3) + some_lays(1):
            word = lay_word(lay)
            self.assertEqual(strict(word), strict(word_of(lay)))
            self.assertEqual(strict(read_lay(word)), strict(lay))
            for _ in range(4):
                self.assertEqual(strict(read_lay(some_word(lay, DRAW))), strict(lay))

    def test_what_the_document_tells(self):
        lay = read_lay("1.2/3/o5.4")
        self.assertEqual(lay_word(lay), "1.2/3/o5.4")
        self.assertEqual(lay, (5, ((1, 2), (6, 9), (7, 8))))
        for word in ("o4.5/3/-2.-1", "3/1.2/o-5.-4", "o-4.-5/1.2/3", "o5.4/-2.-1/3"):
            self.assertEqual(read_lay(word), lay)
        self.assertEqual(lay_word((1, ())), "1")
        self.assertEqual(lay_word((1, ((0, 1),))), "o1")
        self.assertEqual(lay_word((2, ((1, 3),))), "2.-1")
        self.assertEqual(lay_word((2, ((0, 3), (1, 2)))), "o2.1")
        self.assertEqual(lay_word((3, ((0, 1),))), "2/3/o1")

    def test_twelve_links(self):
        line = ".".join(str(link) for link in range(1, 13))
        lay = read_lay(line)
        self.assertEqual((lay[0], len(lay[1]), lay_word(lay)), (12, 11, line))
        ring = "o12.1.2.3.4.5.6.7.8.9.10.11"
        self.assertEqual(lay_word(read_lay("o" + line)), ring)
        apart = line.replace(".", "/o")
        self.assertEqual(read_lay("o" + apart), (12, tuple((2 * k, 2 * k + 1) for k in range(12))))
        for word in (line + ".13", line + "/13", "13." + line, "o13/" + line):
            self.assertEqual(tells(read_lay, word), ("BadText", {"line": 0, "word": 0}))

    def test_wrong_words(self):
        for word in ODD_WORDS:
            place = false_place(word, "L")
            if place is None:
                self.assertEqual(read_lay(word)[0], word.count(".") + word.count("/") + 1)
                self.assertTrue(is_word(word))
            else:
                self.assertEqual(tells(read_lay, word), ("BadText", {"line": place[0], "word": place[1]}), word)
        for word in ("1.2/3/o5.4", "o1", "1", "-3.2/o1"):
            for text in respelled(word):
                place = false_place(text, "L")
                found = tells(read_lay, text)
                if place is None:
                    self.assertEqual(found[0], "value", text)
                else:
                    self.assertEqual(found, ("BadText", {"line": place[0], "word": place[1]}), text)
            for at in range(len(word)):
                for sign in "0123-./o \nx":
                    ahead, behind = word[:at], word[at + 1:]
                    for text in (ahead + behind, ahead + sign + word[at:], ahead + sign + behind):
                        place = false_place(text, "L")
                        wanted = ("BadText", {"line": place[0], "word": place[1]}) if place else None
                        found = tells(read_lay, text)
                        self.assertEqual(found if found[0] != "value" else None, wanted, text)

    def test_no_lays(self):
        for wrong, place in WRONG_LAYS:
            self.assertEqual(tells(lay_word, wrong), ("BadLay", {"place": place}))


class Terms(unittest.TestCase):
    def test_there_and_back(self):
        for term in GOOD_TERMS + [even_term(11), even_term(12)]:
            text = term_text(term)
            self.assertEqual(strict(text), strict(text_by_words(term)))
            self.assertEqual(strict(read_term(text)), strict(term))

    def test_what_the_document_tells(self):
        for term, text in ((("bare", 12), "bare 12"), (("cross", ("line", 2), 0, 3), "cross 0 3 line 2"),
                           (("beside", ("cut", ("ring", 1), 1), ("swap", ("bare", 2), 1, 0)),
                            "beside cut 1 ring 1 swap 1 0 bare 2"), (("out", ("turn", ("line", 11), 10), 0),
                                                                     "out 0 turn 10 line 11")):
            self.assertEqual(term_text(term), text)
            self.assertEqual(read_term(text), term)

    def test_respelled(self):
        for text in ("ring 1", "cross 0 3 line 2", "beside cut 1 ring 1 swap 1 0 bare 2", "out 0 turn 10 line 11"):
            for other in respelled(text):
                place = false_place(other, "T")
                found = tells(read_term, other)
                if place is not None:
                    self.assertEqual(found, ("BadText", {"line": place[0], "word": place[1]}), other)
                elif found[0] == "value":
                    self.assertEqual(term_text(found[1]), other)
                else:
                    self.assertEqual(found[0], "BadTerm", other)

    def test_what_has_the_form_and_is_none(self):
        for text, path in (("bare 0", ()), ("bare 13", ()), ("ring 99", ()), ("cross 1 1 bare 2", ()),
                           ("cross 24 0 bare 12", ()), ("cross 0 4 bare 2", ()), ("cut 0 bare 2", ()),
                           ("beside bare 1 bare 13", (2,)), ("beside cut 0 bare 1 bare 1", (1,)), ("out 0 bare 1", ()),
                           ("turn 0 turn 0 turn 0 turn 0 turn 0 bare 1", ()), ("beside bare 7 bare 6", ()),
                           ("turn 0 turn 12 bare 1", (1,)), ("turn 0 turn 0 out 0 bare 1", (1, 1))):
            self.assertEqual(tells(read_term, text), ("BadTerm", {"path": path}), text)
        self.assertEqual(read_term("turn 0 turn 0 turn 0 turn 0 bare 1")[0], "turn")

    def test_twelve_words_and_thirteen(self):
        text = text_by_words(even_term(13))
        words = text.split(" ")
        at = [number for number, word in enumerate(words) if word in TERMS][12]
        self.assertEqual(tells(read_term, text), ("BadText", {"line": 0, "word": at}))
        for last in ("", "x", "bare", "99", "1.2"):
            other = " ".join(words[:at] + [last] + words[at + 1:])
            self.assertEqual(tells(read_term, other), ("BadText", {"line": 0, "word": at}))
        self.assertEqual(tells(read_term, " ".join(words[:at])), ("BadText", {"line": 0, "word": at}))
        many = "beside " * 30
        self.assertEqual(tells(read_term, many + "bare 1"), ("BadText", {"line": 0, "word": 12}))
        twelve = text_by_words(even_term(12))
        self.assertEqual(need_term(read_term(twelve)), even_term(12))
        self.assertEqual(tells(read_term, twelve + " bare 1"), ("BadText", {"line": 0, "word": len(twelve.split(" "))}))

    def test_lines(self):
        for text, place in (("", (0, 0)), ("\n", (0, 0)), ("bare 1\n", (1, 0)), ("bare 1\nbare 1", (1, 0)),
                            ("bare\nbare 1", (0, 1)), ("bare 1 1\nbare 1", (0, 2)), ("\nbare 1", (0, 0)),
                            ("bare 1 ", (0, 2)), (" bare 1", (0, 0)), ("bare  1", (0, 1)), ("bare 1\n\n", (1, 0)),
                            ("bare 01", (0, 1)), ("bare 1.", (0, 1)), ("bare 100", (0, 1)), ("cut 0", (0, 2))):
            self.assertEqual(tells(read_term, text), ("BadText", {"line": place[0], "word": place[1]}), text)

    def test_no_terms(self):
        for value in ODD_VALUES + [("turn", ("bare", 1), 1), ["bare", 1]]:
            self.assertEqual(tells(term_text, value), ("BadTerm", {"path": ()}))
        self.assertEqual(tells(term_text, ("turn", ("bare", 13), 1)), ("BadTerm", {"path": (1,)}))


class Sayings(unittest.TestCase):
    def test_there_and_back(self):
        for links in (1, 2, 3):
            lay = some_lay(links, 1, links)
            for words in range(1, 11):
                for _ in range(15):
                    saying = drawn_saying(links, words)
                    text = saying_text(lay, saying)
                    self.assertEqual(strict(text), strict(text_by_words(saying)))
                    self.assertEqual(strict(read_saying(lay, text)), strict(saying))

    def test_what_the_document_tells(self):
        for saying, text in ((("joined", 1, 0), "joined 1 0"), (("away", LAY, 12), "away 3.2/o1 12"),
                             (("or", ("not", ("free", 5)), ("and", ("lines", 0), ("rings", 3))),
                              "or not free 5 and lines 0 rings 3"), (("together", 2, 0), "together 2 0")):
            self.assertEqual(saying_text(LAY, saying), text)
            self.assertEqual(read_saying(LAY, text), saying)
        # any WORD of the lay is read
        self.assertEqual(read_saying(LAY, "not away o-1/-2.-3 0"), ("not", ("away", LAY, 0)))

    def test_respelled(self):
        for text in ("free 5", "and joined 0 1 not lines 2", "or away 2.-3/o1 0 together 2 0"):
            for other in respelled(text):
                place = false_place(other, "S")
                found = tells(read_saying, LAY, other)
                if place is not None:
                    self.assertEqual(found, ("BadText", {"line": place[0], "word": place[1]}), other)
                elif found[0] == "value":
                    self.assertIsNone(saying_path(found[1], 3))
                    if "away" not in other:
                        self.assertEqual(saying_text(LAY, found[1]), other)
                else:
                    self.assertEqual(found[0], "BadSaying", other)

    def test_what_has_the_form_and_is_none(self):
        for text, path in (("free 6", ()), ("free 99", ()), ("joined 1 1", ()), ("together 0 3", ()), ("lines 13", ()),
                           ("away 1 0", ()), ("away 1.2.3.4 0", ()), ("away 1.2.3 13", ()), ("not free 6", (1,)),
                           ("and free 0 not away 1 0", (2, 1)), ("not not not not not free 0", (1,) * 5)):
            self.assertEqual(tells(read_saying, LAY, text), ("BadSaying", {"path": path}), text)
        self.assertEqual(read_saying(LAY, "not not not not free 0")[0], "not")

    def test_ten_words_and_eleven(self):
        text = text_by_words(even_saying(11))
        words = text.split(" ")
        at = [number for number, word in enumerate(words) if word in SAYINGS][10]
        for last in ("", "x", "free", "99"):
            other = " ".join(words[:at] + [last] + words[at + 1:])
            self.assertEqual(tells(read_saying, LAY, other), ("BadText", {"line": 0, "word": at}))
        self.assertEqual(read_saying(LAY, text_by_words(even_saying(10))), even_saying(10))
        self.assertEqual(tells(read_saying, LAY, "and " * 25 + "free 1"), ("BadText", {"line": 0, "word": 10}))

    def test_the_lay_then_the_text_then_the_saying(self):
        for call in (saying_text, read_saying):
            for wrong, place in WRONG_LAYS:
                for value in (None, "x", "free 99"):
                    self.assertEqual(tells(call, wrong, value), ("BadLay", {"place": place}))
        self.assertEqual(tells(read_saying, LAY, "free 99\n"), ("BadText", {"line": 1, "word": 0}))
        self.assertEqual(tells(read_saying, LAY, "free 99 1"), ("BadText", {"line": 0, "word": 2}))
        for value in ODD_VALUES + [("free", 6), ["free", 1]]:
            self.assertEqual(tells(saying_text, LAY, value), ("BadSaying", {"path": ()}))


class NoTexts(unittest.TestCase):
    def test_no_strings(self):
        for call, rest in READERS:
            for value in NO_STRINGS:
                self.assertEqual(tells(call, *rest, value), ("BadText", {"line": None, "word": None}))

    def test_twenty_thousand_signs(self):
        for call, rest in READERS:
            for text in (" " * 20000, "x" * 20000, "\n" * 20000, "1." * 10000, "1/" * 10000, "-" * 20000):
                self.assertEqual(tells(call, *rest, text), ("BadText", {"line": 0, "word": 0}))
        self.assertEqual(tells(read_term, "bare " + "1" * 19000), ("BadText", {"line": 0, "word": 1}))


if __name__ == "__main__":
    unittest.main()
