"""SAYINGS: what is so of a lay, or not."""

from doublecut.chains import chain_numbers, has_link, tidy_chains
from doublecut.checks import MOST_LINKS, is_from
from doublecut.costs import cost_of
from doublecut.errors import BadSaying
from doublecut.lays import is_lay, mates, need_lay

MOST_SAYING_WORDS = 10
MOST_WITHIN = 4
# what each word wants behind it
SAYING_FORMS = {
    "joined": ("end", "end"), "free": ("end",), "together": ("link", "link"), "lines": ("number",),
    "rings": ("number",), "away": ("lay", "number"), "not": ("saying",), "and": ("saying", "saying"),
    "or": ("saying", "saying"),
}


def can_stand(value, kind, links):
    """Whether any value can stand where a word wants this kind, for so many links; a SAYING is not looked into."""
    if kind == "end":
        return is_from(value, 0, 2 * links - 1)
    if kind == "link":
        return is_from(value, 0, links - 1)
    if kind == "lay":
        return is_lay(value) and value[0] == links
    return kind == "saying" or is_from(value, 0, MOST_LINKS)


def is_said(value, links):
    """Whether any value is a tuple of a word and what it wants, whatever stands in the place of SAYINGS."""
    if not isinstance(value, tuple) or value == () or not isinstance(value[0], str) or value[0] not in SAYING_FORMS:
        return False
    wanted = SAYING_FORMS[value[0]]
    told = value[1:]
    if len(told) != len(wanted) or not all([can_stand(part, kind, links) for part, kind in zip(told, wanted)]):
        return False
    return wanted not in (("end", "end"), ("link", "link")) or told[0] != told[1]


def need_parts(saying, links, path, met):
    """Nothing, where all is a SAYING for so many links; BadSaying. The paths ahead of this one stand in met."""
    met.append(path)
    if len(met) > MOST_SAYING_WORDS or len(path) > MOST_WITHIN or not is_said(saying, links):
        raise BadSaying(path)
    for at, kind in enumerate(SAYING_FORMS[saying[0]]):
        if kind == "saying":
            need_parts(saying[at + 1], links, (*path, at + 1), met)


def need_saying_of(lay, saying):
    """A SAYING for what is a lay itself; BadSaying."""
    need_parts(saying, lay[0], (), [])
    return saying


def need_saying(lay, saying):
    """The SAYING itself; BadLay, BadSaying."""
    return need_saying_of(need_lay(lay), saying)


def lie_together(lay, one, other):
    """Whether two links of a lay lie in one chain."""
    lines, rings = tidy_chains(lay)
    return any([has_link(reading, one) and has_link(reading, other) for reading in lines + rings])


def holds_alone(lay, word, told):
    """Whether what a word without SAYINGS in it tells is so of a lay."""
    if word == "joined":
        return mates(lay)[told[0]] == told[1]
    if word == "free":
        return mates(lay)[told[0]] is None
    if word == "together":
        return lie_together(lay, told[0], told[1])
    if word == "away":
        return cost_of(lay, told[0]) == told[1]
    lines, rings = chain_numbers(lay)
    return told[0] == (lines if word == "lines" else rings)


def holds(lay, saying):
    """Whether what is a SAYING for a lay is so of it."""
    word, *told = saying
    if word == "not":
        return not holds(lay, told[0])
    if word == "and":
        return holds(lay, told[0]) and holds(lay, told[1])
    if word == "or":
        return holds(lay, told[0]) or holds(lay, told[1])
    return holds_alone(lay, word, told)


def is_so(lay, saying):
    """Whether a SAYING is so of a lay; BadLay, BadSaying."""
    return holds(lay, need_saying(lay, saying))
