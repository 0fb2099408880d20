"""TERMS: words that build lays; DEEDS: the steps of a lay in such words."""

from doublecut.checks import MOST_LINKS, is_from
from doublecut.costs import making_step
from doublecut.errors import BadStep, BadTerm
from doublecut.lays import beside, joint_of, made_lay, mates, need_lay, renamed, without
from doublecut.steps import need_step_of, stepped

MOST_TERM_WORDS = 12
MOST_WITHIN = 4
# each word, how many TERMS and how many integers behind these it wants, and what the integers can be
TERM_FORMS = {
    "bare": (0, 1, 1, 12), "line": (0, 1, 1, 12), "ring": (0, 1, 1, 12), "cross": (1, 2, 0, 23), "cut": (1, 1, 0, 23),
    "turn": (1, 1, 0, 11), "swap": (1, 2, 0, 11), "beside": (2, 0, 0, 0), "out": (1, 1, 0, 11),
}


def many_terms(word):
    """How many TERMS a word wants."""
    return TERM_FORMS[word][0]


def many_numbers(word):
    """How many integers a word wants."""
    return TERM_FORMS[word][1]


def has_form(value):
    """Whether a value is a tuple of a word and what it wants, whatever stands in the place of TERMS."""
    if not isinstance(value, tuple) or value == () or not isinstance(value[0], str) or value[0] not in TERM_FORMS:
        return False
    terms, numbers, least, most = TERM_FORMS[value[0]]
    if len(value) != 1 + terms + numbers:
        return False
    told = value[1 + terms:]
    # one integer is unlike all others of a word, and so are two that are not equal
    return all([is_from(number, least, most) for number in told]) and len(set(told)) == len(told)


def parts_of(term):
    """A list of the pairs of the index and the TERM of those that stand in what has the form of one."""
    return [(at, term[at]) for at in range(1, 1 + many_terms(term[0]))]


def need_form(term, path, met):
    """Nothing, where all is in form; BadTerm. The paths that were walked ahead of this one stand in met."""
    met.append(path)
    if len(met) > MOST_TERM_WORDS or len(path) > MOST_WITHIN:
        raise BadTerm(())
    if not has_form(term):
        raise BadTerm(path)
    for at, part in parts_of(term):
        need_form(part, (*path, at), met)


def chain_joints(links):
    """A list of the joints of the far end of each link but the last one with the near end of the next one."""
    return [(2 * link + 1, 2 * link + 2) for link in range(links - 1)]


def plain_lay(word, links):
    """The lay of so many links alone."""
    joints = [] if word == "bare" else chain_joints(links)
    if word == "ring":
        joints.append((0, 2 * links - 1))
    return made_lay(links, joints)


def is_end_of(lay, value):
    """Whether any value is an end of a lay."""
    return is_from(value, 0, 2 * lay[0] - 1)


def crossing(lay, one, other):
    """The step that joins two ends of a lay, any values, or None."""
    if not is_end_of(lay, one) or not is_end_of(lay, other) or one == other or mates(lay)[one] == other:
        return None
    return making_step(lay, joint_of(one, other))


def cutting(lay, one):
    """The step that cuts the joint of an end of a lay, any value, or None."""
    mate = mates(lay)[one] if is_end_of(lay, one) else None
    return None if mate is None else ((joint_of(one, mate),), ())


def deed_step(lay, deed):
    """The step of what can be a DEED at what is a lay, any value, or None if it is none."""
    if not isinstance(deed, tuple) or deed == ():
        return None
    if deed[0] == "cross" and len(deed) == 3:
        return crossing(lay, deed[1], deed[2])
    return cutting(lay, deed[1]) if deed[0] == "cut" and len(deed) == 2 else None


def turned(lay, link):
    """The lay in which the ends of a link change places."""
    order = list(range(1, lay[0] + 1))
    order[link] = -link - 1
    return renamed(lay, tuple(order))


def swapped(lay, one, other):
    """The lay in which two unlike links change places."""
    order = list(range(1, lay[0] + 1))
    order[one], order[other] = other + 1, one + 1
    return renamed(lay, tuple(order))


def lay_by_links(word, lay, links):
    """The lay by "turn", "swap" or "out" at these links, or None if there is none."""
    if max(links) >= lay[0]:
        return None
    if word == "turn":
        return turned(lay, links[0])
    if word == "swap":
        return swapped(lay, links[0], links[1])
    return without(lay, links[0]) if lay[0] > 1 else None


def lay_by_word(word, lays, numbers):
    """The lay by a word, of the lays of its TERMS and its integers, or None if there is none."""
    if word == "beside":
        one, other = lays
        return beside(one, other) if one[0] + other[0] <= MOST_LINKS else None
    if not lays:
        return plain_lay(word, numbers[0])
    lay = lays[0]
    if word not in ("cross", "cut"):
        return lay_by_links(word, lay, numbers)
    step = deed_step(lay, (word, *numbers))
    return None if step is None else stepped(lay, step)


def lay_along(term, path):
    """The lay of what has the form of a TERM; BadTerm."""
    word = term[0]
    lays = [lay_along(part, (*path, at)) for at, part in parts_of(term)]
    lay = lay_by_word(word, lays, term[1 + many_terms(word):])
    if lay is None:
        raise BadTerm(path)
    return lay


def term_lay(term):
    """The lay of a TERM; BadTerm."""
    need_form(term, (), [])
    return lay_along(term, ())


def need_term(term):
    """The TERM itself; BadTerm."""
    term_lay(term)
    return term


def lay_of(term):
    """The lay of a TERM; BadTerm."""
    return term_lay(term)


def terms_in(term):
    """The tuple of the TERMS that stand in a TERM itself, from left to right; BadTerm."""
    need_term(term)
    return tuple([part for _, part in parts_of(term)])


def step_of(lay, deed):
    """The step of a DEED at a lay; BadLay, BadStep."""
    step = deed_step(need_lay(lay), deed)
    if step is None:
        raise BadStep(deed)
    return step


def deed_of(lay, step):
    """The least DEED, as tuples are ordered, with this step of a lay; BadLay, BadStep."""
    need_lay(lay)
    cut, made = need_step_of(lay, step)
    if not made:
        return "cut", cut[0][0]
    # a crossing that makes two joints is that of each of them
    low, high = made[0]
    return "cross", low, high
