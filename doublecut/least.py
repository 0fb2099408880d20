"""Least histories: those with as few steps as lead from one lay to another one."""

from doublecut.costs import cost_of, direct_history, leads_within
from doublecut.errors import TooGreat
from doublecut.good import good_of
from doublecut.lays import need_two
from doublecut.lots import number_of_lot
from doublecut.steps import stepped
from doublecut.webs import sizes_of

MOST_LEAST = 1000


def least_number(one, other, known):
    """How many least histories there are, of what are two lays; known keeps the NUMBERS of LOTS."""
    return number_of_lot(sizes_of(one, other), known)


def least_count(one, other):
    """How many least histories there are; BadLay, Unlike."""
    need_two(one, other)
    return least_number(one, other, {})


def a_least(one, other):
    """One of the least histories; BadLay, Unlike."""
    need_two(one, other)
    return direct_history(one, other)


def is_least(one, other, value):
    """Whether any value is a least history; BadLay, Unlike."""
    need_two(one, other)
    return leads_within(one, other, cost_of(one, other), value)


def listed_least(here, other, known):
    """A list of all least histories from here, ascending; known keeps such lists by the joints of the lays."""
    if here == other:
        return [()]
    joints = here[1]
    if joints not in known:
        found = []
        for step in good_of(here, other):
            found.extend([(step, *behind) for behind in listed_least(stepped(here, step), other, known)])
        known[joints] = found
    return known[joints]


def all_least(one, other):
    """The ascending tuple of all least histories; BadLay, Unlike, TooGreat."""
    need_two(one, other)
    if least_number(one, other, {}) > MOST_LEAST:
        raise TooGreat(MOST_LEAST)
    return tuple(listed_least(one, other, {}))
