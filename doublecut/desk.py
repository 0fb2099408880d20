"""A desk: a live lay that is led by lines."""

from doublecut.counted import count_steps
from doublecut.errors import ChainError, TooGreat
from doublecut.lines import lay_word, read_term
from doublecut.live import Live
from doublecut.says import is_so
from doublecut.terms import term_lay
from doublecut.words import Words, line_from, need_text

# what the first word of each line wants behind it
LINE_FORMS = {
    "cross": ("end", "end"), "cut": ("end",), "lead": ("lay",), "away": ("lay",), "lay": (), "steps": (),
    "say": ("saying",), "undo": (), "deeds": (),
}


class Desk:
    """Answers lines that lead a live lay, that of the TERM of a text at first; BadText, BadTerm."""

    def __init__(self, text):
        self._live = Live(term_lay(read_term(text)))

    @property
    def live(self):
        """The Live itself."""
        return self._live

    def say(self, line):
        """The answer to a line, "no" where it cannot be answered."""
        try:
            word, *told = line_from(Words(need_text(line), 0), dict(LINE_FORMS))
            if word in ("cross", "cut", "lead", "undo"):
                return self._led(word, told)
            return self._told(word, told)
        except (ChainError, TooGreat):
            return "no"

    def _led(self, word, told):
        """The answer to a line that does something."""
        if word == "lead":
            return str(self._live.lead(told[0]))
        if word == "undo":
            if len(self._live) == 0:
                return "nothing"
            self._live.undo()
        elif word == "cross":
            self._live.cross(told[0], told[1])
        else:
            self._live.cut(told[0])
        return "done"

    def _told(self, word, told):
        """The answer to a line that asks something."""
        if word == "away":
            return str(self._live.away(told[0]))
        if word == "say":
            return "so" if is_so(self._live.lay, told[0]) else "not"
        if word == "lay":
            return lay_word(self._live.lay)
        return str(count_steps(self._live.lay) if word == "steps" else len(self._live))
