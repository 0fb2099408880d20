"""Spheres: the lays that are just so many steps away."""

from math import comb

from doublecut.checks import need_links, need_number
from doublecut.costs import cost_of
from doublecut.counted import MOST_LAYS_LISTED, MOST_LISTED, listed_lays
from doublecut.errors import TooGreat
from doublecut.lays import need_lay


def turned_orders(many):
    """How many orders of so many joints there are, each turned one way or the other."""
    count = 1
    for place in range(1, many + 1):
        count = 2 * place * count
    return count


def first_pieces(joints, free):
    """The pieces that the first free end can be in, or the first joint where no end is free.

    Each is told as its joints, its free ends, its cost, and in how many ways it can be tied.
    """
    found = []
    if free > 0:
        for many in range(joints + 1):
            ways = comb(joints, many) * turned_orders(many)
            found.append((many, 1, many, ways))
            if free > 1:
                found.append((many, 2, many + 1, (free - 1) * ways))
        return found
    for many in range(1, joints + 1):
        ways = comb(joints - 1, many - 1) * turned_orders(many - 1)
        found.append((many, 0, many - 1, ways))
        found.append((many, 0, many, many * ways))
    return found


def tied_counts(joints, free, known):
    """A list: how many lays tie so many joints and free ends at the cost 0, at 1, ..; known keeps such lists."""
    if joints == 0 and free == 0:
        return [1]
    if (joints, free) not in known:
        counts = [0] * (joints + free // 2 + 1)
        for used, ends, cost, ways in first_pieces(joints, free):
            for more, count in enumerate(tied_counts(joints - used, free - ends, known)):
                counts[cost + more] += ways * count
        known[(joints, free)] = counts
    return known[(joints, free)]


def sizes_around(links, joints, known):
    """A list: how many lays are 0, 1, .. steps away from one with so many links and joints."""
    return tied_counts(joints, 2 * links - 2 * joints, known)


def sphere_size(lay, number):
    """How many lays are just so many steps away from a lay; BadLay, BadNumber."""
    links, joints = need_lay(lay)
    need_number(number, 0, links)
    return sizes_around(links, len(joints), {})[number]


def sphere_sizes(lay):
    """The tuple of how many lays are 0, 1, .. steps away, up to the number of links; BadLay."""
    links, joints = need_lay(lay)
    return tuple(sizes_around(links, len(joints), {}))


def sphere(lay, number):
    """The ascending tuple of the lays just so many steps away; BadLay, BadNumber, TooGreat."""
    links = need_lay(lay)[0]
    need_number(number, 0, links)
    if links > MOST_LISTED:
        raise TooGreat(MOST_LAYS_LISTED)
    return tuple([met for met in listed_lays(links) if cost_of(lay, met) == number])


def lays_with(links, joints):
    """How many lays of so many links have so many joints."""
    count = comb(2 * links, 2 * joints)
    # the first end that is joined, then the first one left, and so on, has an odd number of others for its mate
    for others in range(1, 2 * joints, 2):
        count = count * others
    return count


def pairs_count(links, number):
    """How many pairs of lays of so many links are just so many steps apart; BadNumber of each."""
    need_links(links)
    need_number(number, 0, links)
    known = {}
    return sum([lays_with(links, joints) * sizes_around(links, joints, known)[number] for joints in range(links + 1)])
