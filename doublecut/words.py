"""Words: what stands between the single spaces of a line, read one behind the other."""

from doublecut.chains import lay_of
from doublecut.errors import BadChains, BadText
from doublecut.says import MOST_SAYING_WORDS, SAYING_FORMS
from doublecut.terms import MOST_TERM_WORDS, TERM_FORMS, many_numbers, many_terms

FIGURES = "0123456789"
FEW_FIGURES = 2
MANY_FIGURES = 9
MOST_DEEDS = 60


def number_told(word, figures):
    """The integer that a word tells with at most so many figures, or None."""
    if not 1 <= len(word) <= figures or not all([sign in FIGURES for sign in word]):
        return None
    return int(word) if word == "0" or word[0] != "0" else None


def link_told(word):
    """The signed number of a link that a word tells, or None."""
    if not word.startswith("-"):
        return number_told(word, FEW_FIGURES)
    number = number_told(word[1:], FEW_FIGURES)
    return None if number is None else -number


def reading_told(text):
    """The reading that stands in a WORD, or None."""
    told = [link_told(word) for word in text.split(".")]
    return None if None in told else tuple(told)


def lay_read(word):
    """The lay that a WORD tells, or None."""
    chains = word.split("/")
    lines = [reading_told(chain) for chain in chains if not chain.startswith("o")]
    rings = [reading_told(chain[1:]) for chain in chains if chain.startswith("o")]
    try:
        # None is no reading
        return lay_of((tuple(lines), tuple(rings)))
    except BadChains:
        return None


class Words:
    """The words of a line of a text; BadText at the first one that cannot stand where it does."""

    def __init__(self, text, line):
        self.told = text.split(" ")
        self.line = line
        self.at = 0

    def are_left(self):
        """Whether there is a word that was not read."""
        return self.at < len(self.told)

    def word_here(self):
        """The word that is read next; none is as bad as an empty one."""
        return self.told[self.at] if self.are_left() else ""

    def need(self, value):
        """What the word here tells, which is read by this; BadText where this is None."""
        if value is None:
            raise BadText(self.line, self.at)
        self.at += 1
        return value

    def one_of(self, known):
        """A word that is one of those known; BadText."""
        return self.need(self.word_here() if self.word_here() in known else None)

    def number_here(self, figures):
        """An integer with at most so many figures; BadText."""
        return self.need(number_told(self.word_here(), figures))

    def lay_here(self):
        """The lay of a WORD; BadText."""
        return self.need(lay_read(self.word_here()))

    def need_fewer(self, met, most):
        """Nothing, where fewer than the most were met; BadText of whatever is here otherwise."""
        if len(met) == most:
            raise BadText(self.line, self.at)

    def need_end(self):
        """Nothing, where all words were read; BadText."""
        if self.are_left():
            raise BadText(self.line, self.at)


def term_from(words, met):
    """What has the form of a TERM; BadText. The words of TERMS ahead of this one stand in met."""
    words.need_fewer(met, MOST_TERM_WORDS)
    word = words.one_of(list(TERM_FORMS))
    met.append(word)
    numbers = [words.number_here(FEW_FIGURES) for _ in range(many_numbers(word))]
    terms = [term_from(words, met) for _ in range(many_terms(word))]
    return (word, *terms, *numbers)


def saying_from(words, met):
    """What has the form of a SAYING; BadText. The words of SAYINGS ahead of this one stand in met."""
    words.need_fewer(met, MOST_SAYING_WORDS)
    word = words.one_of(list(SAYING_FORMS))
    met.append(word)
    told = [part_from(words, kind, met) for kind in SAYING_FORMS[word]]
    return (word, *told)


def part_from(words, kind, met):
    """What a word of a SAYING wants behind it; BadText."""
    if kind == "saying":
        return saying_from(words, met)
    return words.lay_here() if kind == "lay" else words.number_here(FEW_FIGURES)


def deeds_from(words):
    """The tuple of what has the form of DEEDS, up to the end of the line; BadText."""
    deeds = []
    while words.are_left():
        words.need_fewer(deeds, MOST_DEEDS)
        word = words.one_of(["cross", "cut"])
        ends = [words.number_here(FEW_FIGURES) for _ in range(many_numbers(word))]
        deeds.append((word, *ends))
    return tuple(deeds)


def value_from(words, kind):
    """What a line has at a place where something of this kind is wanted; BadText."""
    if kind == "lay":
        return words.lay_here()
    if kind == "saying":
        return saying_from(words, [])
    if kind == "deeds":
        return deeds_from(words)
    return words.number_here(FEW_FIGURES if kind == "end" else MANY_FIGURES)


def line_from(words, forms):
    """The tuple of the first word of a line and of what it wants by these forms, nothing being left; BadText."""
    word = words.one_of(list(forms))
    told = [value_from(words, kind) for kind in forms[word]]
    words.need_end()
    return (word, *told)


def need_text(text):
    """The string itself; BadText."""
    if not isinstance(text, str):
        raise BadText(None, None)
    return text


def lines_of(text):
    """A list of the lines of a text; BadText."""
    return need_text(text).split("\n")
