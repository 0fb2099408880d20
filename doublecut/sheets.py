"""SHEETS: a TERM, and what is told of its lay, judged."""

from doublecut.counted import count_steps
from doublecut.good import good_of
from doublecut.least import least_number
from doublecut.says import holds, need_saying_of
from doublecut.steps import stepped
from doublecut.terms import deed_step, term_lay
from doublecut.words import Words, line_from, lines_of, term_from

# what the first word of each VERDICT wants behind it
VERDICT_FORMS = {
    "links": ("count",), "steps": ("count",), "is": ("lay",), "say": ("saying",), "good": ("lay", "count"),
    "ways": ("lay", "count"), "row": ("lay", "deeds"),
}


def sheet_of(text):
    """The pair of the lay of a SHEET and of the list of its VERDICTS; BadText, BadTerm, BadSaying."""
    first, *others = lines_of(text)
    words = Words(first, 0)
    term = term_from(words, [])
    words.need_end()
    verdicts = [line_from(Words(line, number + 1), dict(VERDICT_FORMS)) for number, line in enumerate(others)]
    lay = term_lay(term)
    for verdict in verdicts:
        if verdict[0] == "say":
            need_saying_of(lay, verdict[1])
    return lay, verdicts


def lay_told(text):
    """The lay of a SHEET; BadText, BadTerm, BadSaying."""
    lay, _ = sheet_of(text)
    return lay


def last_of_row(lay, deeds):
    """The lay behind what can be DEEDS, done one behind another, or None where one cannot be done."""
    here = lay
    for deed in deeds:
        step = deed_step(here, deed)
        if step is None:
            return None
        here = stepped(here, step)
    return here


def is_judged_so(lay, verdict):
    """Whether a VERDICT is so of a lay."""
    word, *told = verdict
    if word == "links":
        return lay[0] == told[0]
    if word == "steps":
        return count_steps(lay) == told[0]
    if word == "is":
        return lay == told[0]
    if word == "say":
        return holds(lay, told[0])
    if word == "row":
        return last_of_row(lay, told[1]) == told[0]
    other, count = told
    if lay[0] != other[0]:
        return False
    return count == (len(good_of(lay, other)) if word == "good" else least_number(lay, other, {}))


def judged(text):
    """The tuple of whether each VERDICT of a SHEET is so; BadText, BadTerm, BadSaying."""
    lay, verdicts = sheet_of(text)
    return tuple([is_judged_so(lay, verdict) for verdict in verdicts])
