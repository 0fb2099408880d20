"""Between two lays: the lays of their least histories, and what their joints and free ends can be."""

from math import comb

from doublecut.costs import cost_of, stands_between
from doublecut.errors import TooGreat
from doublecut.good import good_of
from doublecut.lays import joint_of, need_third, need_two
from doublecut.lots import costs_in
from doublecut.steps import stepped
from doublecut.webs import sizes_of, web_of

MOST_BETWEEN = 500


def lies_between(one, other, third):
    """Whether the lay third lies between one and other; BadLay, Unlike."""
    need_two(one, other)
    need_third(one, third)
    return stands_between(one, third, other)


def counts_in_piece(cost):
    """A list: at each distance, in how many ways the ends of a piece of this cost can lie between."""
    return [comb(cost + 1, away + 1) * comb(cost + 1, away) // (cost + 1) for away in range(cost + 1)]


def counts_within(one, other):
    """A list of how many lays between there are at each distance, all of whose joints are within pieces."""
    counts = [1]
    for cost in costs_in(sizes_of(one, other)):
        more = [0] * (len(counts) + cost)
        for away, count in enumerate(counts):
            for further, ways in enumerate(counts_in_piece(cost)):
                more[away + further] += count * ways
        counts = more
    return counts


def has_open_and_shut(one, other):
    """Whether the web of two lays has both an open piece and a shut one."""
    words = [kind for kind, _ in sizes_of(one, other)]
    return "open" in words and "shut" in words


def levels_between(one, other):
    """A list of the lists of the lays between at each distance, each ascending; TooGreat."""
    # with an open piece and a shut one there are more than these, never fewer
    if sum(counts_within(one, other)) > MOST_BETWEEN:
        raise TooGreat(MOST_BETWEEN)
    levels = [[one]]
    many = 1
    for _ in range(cost_of(one, other)):
        levels.append(sorted({stepped(here, step) for here in levels[-1] for step in good_of(here, other)}))
        many += len(levels[-1])
        if many > MOST_BETWEEN:
            raise TooGreat(MOST_BETWEEN)
    return levels


def between_counts(one, other):
    """The tuple of how many lays lie between at each distance from one; BadLay, Unlike, TooGreat."""
    need_two(one, other)
    if has_open_and_shut(one, other):
        return tuple([len(level) for level in levels_between(one, other)])
    return tuple(counts_within(one, other))


def all_between(one, other):
    """The ascending tuple of all lays between; BadLay, Unlike, TooGreat."""
    need_two(one, other)
    return tuple(sorted([lay for level in levels_between(one, other) for lay in level]))


def joints_in_row(row):
    """A list of the joints of each two ends of a row with an even number of ends between them."""
    return [joint_of(row[at], row[place]) for at in range(len(row)) for place in range(at + 1, len(row), 2)]


def ends_in(web, word):
    """A list of the ends of all pieces of one kind."""
    return [end for kind, row in web if kind == word for end in row]


def joints_between(one, other):
    """The ascending tuple of the joints that some lay between has; BadLay, Unlike."""
    need_two(one, other)
    web = web_of(one, other)
    within = [joint for _, row in web for joint in joints_in_row(row)]
    across = [joint_of(end, mate) for end in ends_in(web, "open") for mate in ends_in(web, "shut")]
    return tuple(sorted(within + across))


def free_between(one, other):
    """The ascending tuple of the ends that are free in some lay between; BadLay, Unlike."""
    need_two(one, other)
    web = web_of(one, other)
    in_odd = [end for kind, row in web if kind == "odd" for end in row[::2]]
    return tuple(sorted(ends_in(web, "open") + ends_in(web, "shut") + in_odd))
