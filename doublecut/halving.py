"""Halvings: least histories from doubled lays to perfect ones, and papers on how long they are."""

from doublecut.checks import is_int, is_pair, need_number
from doublecut.doubled import half_of, is_twice, need_doubled
from doublecut.errors import BadHistory, BadPaper
from doublecut.halves import cost_of_pieces, cost_to_half, twin_web
from doublecut.histories import walked
from doublecut.steps import steps_of, stepped

MOST_HALVINGS = 2


def good_from(lay):
    """A list of all good halvings of what is a doubled lay, ascending."""
    wanted = cost_to_half(lay) - 1
    return [step for step in steps_of(lay) if cost_to_half(stepped(lay, step)) == wanted]


def good_halvings(lay):
    """The ascending tuple of all good halvings; BadLay."""
    return tuple(good_from(need_doubled(lay)))


def first_halving(lay):
    """The least good halving of what is a doubled lay that is not perfect."""
    wanted = cost_to_half(lay) - 1
    for step in steps_of(lay):
        if cost_to_half(stepped(lay, step)) == wanted:
            return step


def lays_to_half(lay):
    """The pair of the halving of what is a doubled lay, and of the perfect lay to which it leads."""
    here = lay
    history = []
    while not is_twice(here):
        history.append(first_halving(here))
        here = stepped(here, history[-1])
    return tuple(history), here


def halving(lay):
    """The halving of a lay; BadLay."""
    history, _ = lays_to_half(need_doubled(lay))
    return history


def halved(lay):
    """The half of the perfect lay to which the halving leads; BadLay."""
    _, last = lays_to_half(need_doubled(lay))
    return half_of(last)


def halving_paper(lay):
    """A paper on the halving cost; BadLay."""
    return halving(lay), twin_web(lay)


def leads_to_half(lay, value):
    """Whether any value is a history from what is a doubled lay to a perfect one."""
    try:
        lays = walked(lay, value)
    except BadHistory:
        return False
    return is_twice(lays[-1])


def are_pieces(value, known):
    """Whether any value is just these PIECES."""
    # what equals them is a tuple of pairs, but may have True for 1
    return value == known and all([is_int(ties) for _, ties in value])


def check_halving(lay, paper):
    """The halving cost, by a paper on it; BadLay, BadPaper."""
    need_doubled(lay)
    if not is_pair(paper):
        raise BadPaper("form")
    history, told = paper
    if not leads_to_half(lay, history):
        raise BadPaper("history")
    known = twin_web(lay)
    if len(history) != cost_of_pieces(known) or not are_pieces(told, known):
        raise BadPaper("pieces")
    return len(history)


def counted_on(lay, many, known):
    """How many histories of so many good halvings there are; known keeps such numbers by PIECES."""
    if many == 0:
        return 1
    # lays with the same PIECES differ in the names of their ends alone
    key = many, twin_web(lay)
    if key not in known:
        known[key] = sum([counted_on(stepped(lay, step), many - 1, known) for step in good_from(lay)])
    return known[key]


def count_halvings(lay, many):
    """How many histories of so many steps there are, each a good halving; BadLay, BadNumber."""
    need_doubled(lay)
    return counted_on(lay, need_number(many, 0, MOST_HALVINGS), {})
