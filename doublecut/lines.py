"""Lines: lays, TERMS and SAYINGS as texts of one line, written and read."""

from doublecut.chains import chains_of
from doublecut.errors import BadText
from doublecut.lays import need_lay
from doublecut.says import SAYING_FORMS, need_saying, need_saying_of
from doublecut.terms import many_terms, need_term
from doublecut.words import Words, lines_of, saying_from, term_from


def reading_text(reading):
    """The text of a reading."""
    return ".".join([str(told) for told in reading])


def lay_word(lay):
    """The WORD of a lay; BadLay."""
    lines, rings = chains_of(lay)
    return "/".join([reading_text(reading) for reading in lines] + ["o" + reading_text(reading) for reading in rings])


def text_of_term(term):
    """The text of what is a TERM."""
    behind = 1 + many_terms(term[0])
    numbers = [str(number) for number in term[behind:]]
    return " ".join([term[0]] + numbers + [text_of_term(part) for part in term[1:behind]])


def term_text(term):
    """The text of a TERM; BadTerm."""
    return text_of_term(need_term(term))


def part_text(value, kind):
    """The text of what stands behind a word of a SAYING."""
    if kind == "saying":
        return text_of_saying(value)
    return lay_word(value) if kind == "lay" else str(value)


def text_of_saying(saying):
    """The text of what is a SAYING."""
    word, *told = saying
    return " ".join([word] + [part_text(value, kind) for value, kind in zip(told, SAYING_FORMS[word])])


def saying_text(lay, saying):
    """The text of a SAYING; BadLay, BadSaying."""
    return text_of_saying(need_saying(lay, saying))


def first_words(text):
    """The words of the first line of a text; BadText."""
    return Words(lines_of(text)[0], 0)


def need_nothing_left(text, words):
    """Nothing, where a text has one line alone, all of whose words were read; BadText."""
    words.need_end()
    if len(lines_of(text)) > 1:
        raise BadText(1, 0)


def read_lay(text):
    """The lay of a WORD alone; BadText."""
    words = first_words(text)
    lay = words.lay_here()
    need_nothing_left(text, words)
    return lay


def read_term(text):
    """The TERM with a text; BadText, BadTerm."""
    words = first_words(text)
    term = term_from(words, [])
    need_nothing_left(text, words)
    return need_term(term)


def read_saying(lay, text):
    """The SAYING with a text; BadLay, BadText, BadSaying."""
    need_lay(lay)
    words = first_words(text)
    saying = saying_from(words, [])
    need_nothing_left(text, words)
    return need_saying_of(lay, saying)
