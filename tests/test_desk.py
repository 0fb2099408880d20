"""doublecut.desk, [63]."""

import inspect
import random
import unittest

from doublecut.desk import Desk
from doublecut.live import Live
from doublecut.steps import all_steps
from doublecut.terms import lay_of

from tests.helpers import ODD_VALUES, model_away, model_kept_lays, some_lay, strict, tells
from tests.test_live import JOIN, CUT, state
from tests.test_says import drawn_saying, path_by_words as saying_path, so_by_words
from tests.test_terms import SOME, deeds_by_words, path_by_words
from tests.texts import DESK, ODD_WORDS, false_place, respelled, some_word, text_by_words, word_of

DRAW = random.Random(63)
SMALL_TERMS = [term for term in SOME if path_by_words(term) is None and lay_of(term)[0] <= 3]


class Lines(unittest.TestCase):
    def test_at_first(self):
        for term in SMALL_TERMS[::3]:
            desk = Desk(text_by_words(term))
            self.assertIsInstance(desk.live, Live)
            self.assertIs(desk.live, desk.live)
            self.assertEqual(state(desk.live), state(Live(lay_of(term))))
            self.assertEqual(state(Desk(text=text_by_words(term)).live), state(desk.live))
            self.assertEqual(desk.say("lay"), word_of(lay_of(term)))

    def test_led_by_each_line(self):
        for term in SMALL_TERMS[::4]:
            desk, here, states = Desk(text_by_words(term)), lay_of(term), []
            links = here[0]
            for _ in range(15):
                way = DRAW.randrange(4)
                if way == 3 and states:
                    self.assertEqual(strict(desk.say("undo")), "'done'")
                    here = states.pop()
                elif way == 2:
                    goal = DRAW.choice(model_kept_lays(links))
                    away = model_away(goal)[here]
                    if away <= 1:
                        self.assertEqual(strict(desk.say("lead " + some_word(goal, DRAW))), strict(str(away)))
                        states += [here] * away
                        here = goal
                else:
                    deed, behind = DRAW.choice(deeds_by_words(here))
                    self.assertEqual(strict(desk.say(" ".join(map(str, deed)))), "'done'")
                    states.append(here)
                    here = behind
                self.assertEqual((desk.live.lay, len(desk.live)), (here, len(states)))
                before = state(desk.live)
                self.asked(desk, here, len(states))
                self.assertEqual(state(desk.live), before)

    def asked(self, desk, here, many):
        """What lines that change nothing are answered."""
        self.assertEqual(strict(desk.say("lay")), strict(word_of(here)))
        self.assertEqual(strict(desk.say("steps")), strict(str(len(all_steps(here)))))
        self.assertEqual(strict(desk.say(line="deeds")), strict(str(many)))
        goal = DRAW.choice(model_kept_lays(here[0]))
        self.assertEqual(strict(desk.say("away " + some_word(goal, DRAW))), strict(str(model_away(goal)[here])))
        saying = drawn_saying(here[0], DRAW.randint(1, 10))
        self.assertEqual(desk.say("say " + text_by_words(saying)), "so" if so_by_words(here, saying) else "not")

    def test_leading(self):
        for seed in range(8):
            goal = some_lay(12, seed, seed)
            desk = Desk("line 12")
            away = int(desk.say("away " + word_of(goal)))
            self.assertEqual(desk.say("lead " + some_word(goal, DRAW)), str(away))
            self.assertEqual((desk.say("deeds"), desk.live.lay), (str(away), goal))
            for _ in range(away):
                self.assertEqual(desk.say("undo"), "done")
            self.assertEqual((desk.say("undo"), desk.say("deeds")), ("nothing", "0"))
            self.assertEqual(desk.say("lay"), "1.2.3.4.5.6.7.8.9.10.11.12")

    def test_what_the_document_tells(self):
        desk = Desk("beside line 2 ring 1")
        answers = [
            ("lay", "1.2/o3"), ("steps", "13"), ("undo", "nothing"), ("deeds", "0"), ("cross 0 3", "done"),
            ("lay", "o2.1/o3"), ("say rings 2", "so"), ("say lines 1", "not"), ("away 1.2/o3", "1"), ("deeds", "1"),
            ("cut 5", "done"), ("cut 5", "no"), ("lay", "3/o2.1"), ("lead o1.2/3", "0"), ("lead 1/2/3", "2"),
            ("deeds", "4"), ("undo", "done"), ("undo", "done"), ("lay", "3/o2.1"), ("undo", "done"), ("undo", "done"),
            ("undo", "nothing"), ("lay", "1.2/o3"),
        ]
        for line, answer in answers:
            self.assertEqual(strict(desk.say(line)), strict(answer), line)

    def test_the_live_itself(self):
        desk = Desk("line 3")
        desk.live.go(JOIN)
        self.assertEqual((desk.say("deeds"), desk.say("lay")), ("1", "o3.1.2"))
        desk.live.go(CUT)
        with desk.live.trial():
            self.assertEqual(desk.say("lead 1/2/3"), "2")
        self.assertEqual((desk.say("deeds"), desk.say("lay")), ("2", "1.2.3"))


class No(unittest.TestCase):
    def test_no_strings_and_none_of_the_lines(self):
        desk = Desk("line 3")
        desk.say("cut 1")
        before = state(desk.live)
        lines = [value for value in ODD_VALUES if not isinstance(value, str)] + [b"lay", ["lay"], ("lay",)]
        lines += [
            "", " ", "\n", "lay ", " lay", "lay\n", "\nlay", "lay lay", "undo 1", "undo undo", "steps 1", "Lay",
            "deeds 0",
            "cross", "cross 0", "cross 0 5 1", "cross 0  5", "cross 00 5", "cross 0 05", "cross 0 100", "cross 0 -1",
            "cross 0 x", "cut", "cut 01", "cut 3 4", "cut x", "lead", "lead 1", "lead 1.2.3 1", "lead x", "lead 1.1.3",
            "away", "away 1.2", "away 1.2.3.4", "away o1.2.3 ", "say", "say x", "say free", "say free 6",
            "say free 1 1",
            "say lines 13", "say lines 100", "say not not not not not free 0", "say away 1 0", "free 1", "is 1.2.3",
            "links 3", "row 1.2.3", "cross 0 0", "cross 0 6", "cross 3 4", "cut 0", "cut 6", "cut 99", "go", "copy",
            "say " + "and " * 10 + "free 1", "undo\nundo", "cut 3\ncut 3", "x" * 20000,
        ]
        for line in lines:
            self.assertEqual(strict(desk.say(line)), "'no'", line)
            self.assertEqual(state(desk.live), before)

    def test_respelled(self):
        for line in ("cross 0 2", "cut 1", "lead o1/2.3", "away 3/2/1", "lay", "steps", "undo", "deeds",
                     "say or free 0 not away 1.2.3 1"):
            for other in respelled(line):
                desk = Desk("line 3")
                desk.live.go(JOIN)
                before = state(desk.live)
                answer = desk.say(other)
                if false_place(other, "K") is not None:
                    self.assertEqual(strict(answer), "'no'", other)
                if answer == "no" or other.split(" ")[0] not in ("cross", "cut", "lead", "undo"):
                    self.assertEqual(state(desk.live), before)
                elif other.split(" ")[0] != "lead":
                    self.assertEqual(answer, "done")
        for word in ODD_WORDS:
            if word not in DESK:
                self.assertEqual(Desk("line 3").say(word), "no")

    def test_deeds_and_sayings_that_are_none(self):
        lay = (2, ((0, 3),))
        known = {" ".join(map(str, deed)): behind for deed, behind in deeds_by_words(lay)}
        lines = ["cut {}".format(end) for end in range(6)]
        lines += ["cross {} {}".format(one, other) for one in range(6) for other in range(6)]
        for line in lines:
            desk = Desk("cross 0 3 bare 2")
            self.assertEqual(desk.say(line), "done" if line in known else "no")
            self.assertEqual(desk.live.lay, known.get(line, lay))
        desk = Desk("cross 0 3 bare 2")
        none = [("free", 4), ("joined", 1, 1), ("together", 0, 2), ("away", (1, ()), 0)]
        for saying in none + [("lines", 12), ("free", 3)]:
            answer = "no"
            if saying_path(saying, 2) is None:
                answer = "so" if so_by_words(lay, saying) else "not"
            self.assertEqual(desk.say("say " + text_by_words(saying)), answer)

    def test_sixty_deeds_and_one_more(self):
        desk = Desk("line 3")
        for number in range(60):
            self.assertEqual(desk.say("cut 1" if number % 2 == 0 else "cross 1 2"), "done")
        before = state(desk.live)
        for line in ("cut 1", "cross 0 5", "lead 1/2/3"):
            self.assertEqual(desk.say(line), "no")
            self.assertEqual(state(desk.live), before)
        self.assertEqual((desk.say("lead 1.2.3"), desk.say("deeds"), desk.say("undo")), ("0", "60", "done"))
        before = state(desk.live)
        self.assertEqual(desk.say("lead o1.2.3"), "no")
        self.assertEqual(state(desk.live), before)
        self.assertEqual(desk.say("lead 1.2.3"), "1")

    def test_texts(self):
        for text, wanted in (("", (0, 0)), ("line", (0, 1)), ("line 3\n", (1, 0)), ("line 03", (0, 1)),
                             ("line 3 4", (0, 2)), ("line 3\nlay", (1, 0)), ("bare 100", (0, 1))):
            self.assertEqual(tells(Desk, text), ("BadText", {"line": wanted[0], "word": wanted[1]}))
        for value in ODD_VALUES + [("line", 3)]:
            if not isinstance(value, str):
                self.assertEqual(tells(Desk, value), ("BadText", {"line": None, "word": None}))
        for text, path in (("line 13", ()), ("turn 0 cut 0 bare 1", (1,)), ("beside bare 6 bare 7", ())):
            self.assertEqual(tells(Desk, text), ("BadTerm", {"path": path}))


class Interface(unittest.TestCase):
    def test_names(self):
        self.assertEqual(list(inspect.signature(Desk.__init__).parameters), ["self", "text"])
        self.assertEqual(list(inspect.signature(vars(Desk)["say"]).parameters), ["self", "line"])
        self.assertIsInstance(vars(Desk)["live"], property)
        self.assertEqual(Desk.__module__, "doublecut.desk")

    def test_operators(self):
        desk = Desk("line 3")
        for value in ODD_VALUES + [Desk("line 3"), desk.live]:
            self.assertIs(desk == value, False)
            self.assertIs(desk != value, True)
            with self.assertRaises(TypeError):
                desk < value
            with self.assertRaises(TypeError):
                desk + value


if __name__ == "__main__":
    unittest.main()
