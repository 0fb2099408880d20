"""Least histories by their numbers, by their first steps, and through a lay."""

from doublecut.checks import need_number
from doublecut.costs import cost_of, stands_between
from doublecut.good import good_of
from doublecut.histories import walked
from doublecut.lays import need_third, need_two
from doublecut.least import least_number
from doublecut.steps import stepped


def counts_on(here, other, known):
    """A list of the pairs of each good step, ascending, and of how many least histories begin with it."""
    return [(step, least_number(stepped(here, step), other, known)) for step in good_of(here, other)]


def picked(counts, number):
    """The pair of the step of the thing with a number, and of its number among those of this step.

    counts are pairs of a step, ascending, and of how many things begin with it.
    """
    left = number
    for step, count in counts:
        if left < count:
            return step, left
        left -= count


def count_ahead(counts, step):
    """How many things begin with lesser steps than this one, by such pairs."""
    return sum([count for met, count in counts if met < step])


def least_at(one, other, number):
    """The least history with a number; BadLay, Unlike, BadNumber."""
    need_two(one, other)
    known = {}
    left = need_number(number, 0, least_number(one, other, known) - 1)
    here = one
    history = []
    while here != other:
        step, left = picked(counts_on(here, other, known), left)
        history.append(step)
        here = stepped(here, step)
    return tuple(history)


def number_of(one, other, history):
    """The number of a history from one, None if it is no least one; BadLay, Unlike, BadHistory."""
    need_two(one, other)
    lays = walked(one, history)
    if lays[-1] != other or len(history) > cost_of(one, other):
        return None
    known = {}
    return sum([count_ahead(counts_on(here, other, known), step) for here, step in zip(lays, history)])


def first_counts(one, other):
    """The ascending tuple of the pairs of all good steps and how many least histories begin with each."""
    need_two(one, other)
    return tuple(counts_on(one, other, {}))


def count_through(one, other, third):
    """How many least histories have the lay third among theirs; BadLay, Unlike."""
    need_two(one, other)
    need_third(one, third)
    if not stands_between(one, third, other):
        return 0
    known = {}
    return least_number(one, third, known) * least_number(third, other, known)
