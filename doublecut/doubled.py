"""Doubled lays: those of which each link has a twin; perfect ones, and the lays of which they are twice the same."""

from doublecut.checks import need_number
from doublecut.errors import BadLay
from doublecut.lays import is_lay, made_lay, mates, need_lay
from doublecut.lots import power

MOST_HALVES = 6


def need_doubled(lay):
    """A lay with an even number of links itself; BadLay."""
    need_lay(lay)
    if lay[0] % 2 == 1:
        raise BadLay((0,))
    return lay


def need_to_double(lay):
    """A lay with so few links that it can be doubled itself; BadLay."""
    need_lay(lay)
    if lay[0] > MOST_HALVES:
        raise BadLay((0,))
    return lay


def twin_of(end, links):
    """The twin of an end of a doubled lay of so many links."""
    return end + links if end < links else end - links


def is_twice(lay):
    """Whether what is a doubled lay is perfect."""
    links, joints = lay
    mate = mates(lay)
    for low, high in joints:
        if twin_of(low, links) == high or mate[twin_of(low, links)] != twin_of(high, links):
            return False
    return True


def half_of(lay):
    """The half of what is a perfect lay."""
    links, joints = lay
    # the ends of the half are as many as the links of the lay, and come ahead of their twins
    return links // 2, tuple(sorted({tuple(sorted([low % links, high % links])) for low, high in joints}))


def is_perfect(lay):
    """Whether a lay is perfect; BadLay."""
    return is_twice(need_doubled(lay))


def half(lay):
    """The half of a perfect lay; BadLay."""
    need_doubled(lay)
    if not is_twice(lay):
        raise BadLay((1,))
    return half_of(lay)


def kept_apart(joint, ends):
    """A list of a joint and that of the twins of its ends; so many ends have their twins behind them."""
    low, high = joint
    return [joint, (low + ends, high + ends)]


def turned_across(joint, ends):
    """A list of the joints of each end of a joint with the twin of the other one."""
    low, high = joint
    return [(low, high + ends), (high, low + ends)]


def listed_doublings(lay):
    """A list of all lays that double what is a lay of few links, ascending."""
    links, joints = lay
    ends = 2 * links
    found = [[]]
    for joint in joints:
        both = [kept_apart(joint, ends), turned_across(joint, ends)]
        found = [pairs + ways for pairs in found for ways in both]
    return sorted([made_lay(ends, pairs) for pairs in found])


def doublings(lay):
    """The ascending tuple of all lays that double a lay; BadLay."""
    return tuple(listed_doublings(need_to_double(lay)))


def count_doublings(lay):
    """How many lays double a lay; BadLay."""
    return power(2, len(need_to_double(lay)[1]))


def doubling_at(lay, number):
    """The lay with a number of those that double a lay; BadLay, BadNumber."""
    found = listed_doublings(need_to_double(lay))
    return found[need_number(number, 0, len(found) - 1)]


def is_doubling(lay, value):
    """Whether any value is a lay that doubles a lay; BadLay."""
    need_to_double(lay)
    return is_lay(value) and value in listed_doublings(lay)


def twice(lay):
    """The doubling in which each joint comes as itself and that of its twins; BadLay."""
    links, joints = need_to_double(lay)
    return made_lay(2 * links, [pair for joint in joints for pair in kept_apart(joint, 2 * links)])
