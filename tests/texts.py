"""A plain model of texts: which word is the first one that cannot stand where it does."""

import random
import re

from doublecut.chains import chains_of

from tests.helpers import some_lay

INTEGER = re.compile("0|[1-9][0-9]*")
CHAIN = re.compile(r"o?-?[1-9][0-9]?(\.-?[1-9][0-9]?)*")
# what each word wants behind it in a text
TERMS = {
    "bare": "i", "line": "i", "ring": "i", "cross": "iiT", "cut": "iT", "turn": "iT", "swap": "iiT", "beside": "TT",
    "out": "iT",
}
SAYINGS = {
    "joined": "ii", "free": "i", "together": "ii", "lines": "i", "rings": "i", "away": "Li", "not": "S", "and": "SS",
    "or": "SS",
}
VERDICTS = {"links": "n", "steps": "n", "is": "L", "say": "S", "good": "Ln", "ways": "Ln", "row": "LD"}
DEEDS = {"cross": "ii", "cut": "i"}
DESK = {
    "cross": "ii", "cut": "i", "lead": "L", "away": "L", "lay": "", "steps": "", "say": "S", "undo": "", "deeds": "",
}


def is_word(text):
    """Whether a text is a WORD by its form."""
    chains = text.split("/")
    if not all(CHAIN.fullmatch(chain) for chain in chains):
        return False
    links = sorted(abs(int(part)) for chain in chains for part in chain.lstrip("o").split("."))
    return links == list(range(1, len(links) + 1)) and len(links) <= 12


def stands(word, kind, counts):
    """What is wanted behind a word that can stand where this kind is wanted, or None; counts are changed."""
    if kind in "in":
        return "" if INTEGER.fullmatch(word) and len(word) <= (2 if kind == "i" else 9) else None
    if kind == "L":
        return "" if is_word(word) else None
    forms, most = {"T": (TERMS, 12), "S": (SAYINGS, 10), "V": (VERDICTS, 1), "D": (DEEDS, 60), "K": (DESK, 1)}[kind]
    counts[kind] = counts.get(kind, 0) + 1
    if counts[kind] > most or word not in forms:
        return None
    # behind a DEED another one can stand
    return forms[word] + ("D" if kind == "D" else "")


def false_word(line, kind):
    """The number of the first word of a line that cannot stand where this kind is wanted, or None."""
    words, wanted, counts = line.split(" "), kind, {}
    for number, word in enumerate(words):
        if not wanted:
            return number
        more = stands(word, wanted[0], counts)
        if more is None:
            return number
        wanted = more + wanted[1:]
    return len(words) if wanted.strip("D") else None


def false_place(text, kind):
    """The pair of line and word with which a text is refused where this kind is wanted, or None.

    "H" is a sheet.
    """
    if not isinstance(text, str):
        return None, None
    first, *others = text.split("\n")
    number = false_word(first, "T" if kind == "H" else kind)
    if number is not None:
        return 0, number
    if kind != "H":
        return (1, 0) if others else None
    for at, line in enumerate(others):
        number = false_word(line, "V")
        if number is not None:
            return at + 1, number
    return None


def word_of(lay):
    """The WORD of a lay, by its tidy chains."""
    lines, rings = chains_of(lay)
    return "/".join([".".join(map(str, told)) for told in lines] + ["o" + ".".join(map(str, told)) for told in rings])


def some_word(lay, draw):
    """A WORD of a lay with its chains in any order, each in any of its readings."""
    lines, rings = chains_of(lay)
    found = []
    for told in lines:
        found.append(".".join(map(str, draw.choice([told, tuple(-link for link in told[::-1])]))))
    for told in rings:
        way = draw.choice([told, tuple(-link for link in told[::-1])])
        at = draw.randrange(len(way))
        found.append("o" + ".".join(map(str, way[at:] + way[:at])))
    draw.shuffle(found)
    return "/".join(found)


def text_by_words(value):
    """The text of a TERM or a SAYING: what stands in it, the integers of a TERM ahead of its TERMS."""
    if isinstance(value, int):
        return str(value)
    if isinstance(value[0], int):
        return word_of(value)
    word, *told = value
    inner = [part for part in told if isinstance(part, tuple) and isinstance(part[0], str)]
    others = [part for part in told if part not in inner]
    return " ".join([word] + [text_by_words(part) for part in others + inner])


ODD_WORDS = [
    "", "bare", "free", "links", "cross", "cut", "row", "say", "not", "x", "0", "1", "2", "12", "13", "23", "24",
    "99", "00", "01", "007", "100", "123456789", "1234567890", "-1", "-0", "+1", "1.2", "o1.2", "1/2", "o1/2", "2/1",
    "1.1", "1.3", "0.1", "1.", ".1", "1..2", "/1", "1/", "1//2", "o", "oo1", "1o", "-1.2", "--1", "1.-2", "o-1.-2",
    "-o1", "1,2", "1.2.3", "1.2.3.4.5.6.7.8.9.10.11.12", "1.2.3.4.5.6.7.8.9.10.11.12.13",
    "o12.11.10.9.8.7.6.5.4.3.2.1", "01.2", "1.02", "O1", "1_0", "1e1", "0x1", "ring", "Bare", "bare1", "\t", "1 ",
    "undo", "lay",
]


def respelled(text):
    """The text with a word left out, one too many, another one, or lines and blanks, at each place."""
    lines = text.split("\n")
    yield from ("", " ", "\n", text + " ", " " + text, text + "\n", "\n" + text)
    yield from (text + "\n\n", text + " \n", text + "\n" + text)
    for at, line in enumerate(lines):
        words = line.split(" ")
        others = [words[:k] + words[k + 1:] for k in range(len(words))]
        others += [words[:k] + words[k + 1:k + 2] + words[k:k + 1] + words[k + 2:] for k in range(len(words))]
        others += [words[:k] for k in range(len(words))] + [words[:k] + [""] + words[k:] for k in range(len(words) + 1)]
        for odd in ODD_WORDS:
            others += [words[:k] + [odd] + words[k:] for k in range(len(words) + 1)]
            others += [words[:k] + [odd] + words[k + 1:] for k in range(len(words))]
        for other in others:
            yield "\n".join(lines[:at] + [" ".join(other)] + lines[at + 1:])
        yield "\n".join(lines[:at] + lines[at + 1:])
        yield "\n".join(lines[:at] + [line, line] + lines[at + 1:])
        yield "\n".join(lines[:at] + [line.replace(" ", "  ")] + lines[at + 1:])
        yield "\n".join(lines[:at] + [line.replace(" ", "\n", 1)] + lines[at + 1:])


def some_lays(seed):
    """Lays of 1 to 12 links, drawn by a seed."""
    draw = random.Random(seed)
    return [some_lay(links, draw.randint(0, links), draw.random()) for links in range(1, 13) for _ in range(6)]
