"""Single steps: one joint cut, or one made; least histories of such steps alone."""

from math import comb

from doublecut.checks import need_number
from doublecut.histories import walked
from doublecut.lays import free_of, need_lay, need_two
from doublecut.numbered import count_ahead, picked
from doublecut.steps import cuts, joins, joints_without, need_step_of, stepped
from doublecut.webs import sizes_of


def has_one_joint(step):
    """Whether a step cuts one joint and makes none, or makes one and cuts none."""
    cut, made = step
    return len(cut) + len(made) == 1


def is_single(lay, step):
    """Whether a step of the lay is single; BadLay, BadStep."""
    need_lay(lay)
    return has_one_joint(need_step_of(lay, step))


def single_steps(lay):
    """The ascending tuple of all single steps; BadLay."""
    need_lay(lay)
    return tuple(sorted(joins(free_of(lay)) + cuts(lay[1])))


def difference(one, other):
    """The number of joints that just one of what are two lays has."""
    return len(joints_without(one, other)) + len(joints_without(other, one))


def single_number(one, other):
    """The difference of two lays; BadLay, Unlike."""
    need_two(one, other)
    return difference(one, other)


def turn_counts(most):
    """A list: in how many orders 0 things in a row, 1, .., most can be done, by turns behind or ahead of neighbours."""
    counts = [1, 1]
    for things in range(1, most):
        # the last one to be done parts the row in two; by turns the first thing is ahead of its neighbour or behind it,
        # and both sorts of orders are counted here
        parted = [comb(things, left) * counts[left] * counts[things - left] for left in range(things + 1)]
        counts.append(sum(parted) // 2)
    return counts


def orders_of_piece(kind, size, counts):
    """The pair of how many deeds a piece has, and of in how many orders they can be done."""
    if kind != "ring":
        return size - 1, counts[size - 1]
    return (size, size // 2 * counts[size - 1]) if size > 2 else (0, 1)


def count_singles(one, other):
    """How many least single histories there are, of what are two lays."""
    counts = turn_counts(2 * one[0])
    product = 1
    done = 0
    for kind, size in sizes_of(one, other):
        deeds, orders = orders_of_piece(kind, size, counts)
        # the deeds of this piece can be mixed in any way with those of the pieces ahead
        done += deeds
        product = product * comb(done, deeds) * orders
    return product


def single_count(one, other):
    """How many least single histories there are; BadLay, Unlike."""
    need_two(one, other)
    return count_singles(one, other)


def singles_on(here, other):
    """A list of the pairs of each single step, ascending, by which the difference becomes less, and how many begin so.

    What begins so is a least single history from here to other.
    """
    free = free_of(here)
    making = [joint for joint in joints_without(other, here) if joint[0] in free and joint[1] in free]
    steps = [((), (joint,)) for joint in making] + [((joint,), ()) for joint in joints_without(here, other)]
    return [(step, count_singles(stepped(here, step), other)) for step in steps]


def single_at(one, other, number):
    """The least single history with a number; BadLay, Unlike, BadNumber."""
    need_two(one, other)
    left = need_number(number, 0, count_singles(one, other) - 1)
    here = one
    history = []
    while here != other:
        step, left = picked(singles_on(here, other), left)
        history.append(step)
        here = stepped(here, step)
    return tuple(history)


def single_place(one, other, history):
    """The number of a history from one, None if it is no least single one; BadLay, Unlike, BadHistory."""
    need_two(one, other)
    lays = walked(one, history)
    all_single = all([has_one_joint(step) for step in history])
    if not all_single or lays[-1] != other or len(history) != difference(one, other):
        return None
    return sum([count_ahead(singles_on(here, other), step) for here, step in zip(lays, history)])
