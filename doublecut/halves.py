"""Halves: how many steps a doubled lay is away from perfect ones, and which of these are nearest."""

from doublecut.costs import cost_of
from doublecut.counted import listed_lays
from doublecut.doubled import half_of, listed_doublings, need_doubled, twin_of
from doublecut.errors import TooGreat
from doublecut.lays import free_of, mates

MOST_NEAREST = 3


def count_ties(mate, begun, seen):
    """How many pairs of twins a piece has, from an end on that is free or in a ring; all its ends become seen."""
    ties = 0
    here = begun
    while here is not None and not seen[here]:
        twin = twin_of(here, len(seen) // 2)
        seen[here] = seen[twin] = True
        ties += 1
        here = mate[twin]
    return ties


def twin_web(lay):
    """The PIECES of the web of twins of what is a doubled lay."""
    mate = mates(lay)
    seen = [False] * len(mate)
    found = []
    for end in free_of(lay):
        if not seen[end]:
            found.append(("path", count_ties(mate, end, seen)))
    # what is left lies in rings
    for end in range(len(mate)):
        if not seen[end]:
            found.append(("ring", count_ties(mate, end, seen)))
    return tuple(sorted(found))


def cost_of_pieces(parts):
    """The halving cost of a lay with these PIECES."""
    # each link and its twin are tied by both their ends
    links = sum([ties for _, ties in parts]) // 2
    even_rings = len([word for word, ties in parts if word == "ring" and ties % 2 == 0])
    odd_paths = len([word for word, ties in parts if word == "path" and ties % 2 == 1])
    return links - even_rings - odd_paths // 2


def cost_to_half(lay):
    """The halving cost of what is a doubled lay."""
    return cost_of_pieces(twin_web(lay))


def twin_pieces(lay):
    """The PIECES of the web of twins, ascending; BadLay."""
    return twin_web(need_doubled(lay))


def halving_cost(lay):
    """The halving cost; BadLay."""
    return cost_to_half(need_doubled(lay))


def nearest_to(lay):
    """A list of all nearest perfect lays, ascending; BadLay, TooGreat."""
    links = need_doubled(lay)[0] // 2
    if links > MOST_NEAREST:
        raise TooGreat(MOST_NEAREST)
    wanted = cost_to_half(lay)
    perfect = [met for single in listed_lays(links) for met in listed_doublings(single)]
    return sorted([met for met in perfect if cost_of(lay, met) == wanted])


def nearest_perfect(lay):
    """The ascending tuple of all nearest perfect lays; BadLay, TooGreat."""
    return tuple(nearest_to(lay))


def nearest_halves(lay):
    """The ascending tuple of the unlike halves of the nearest perfect lays; BadLay, TooGreat."""
    return tuple(sorted({half_of(met) for met in nearest_to(lay)}))
