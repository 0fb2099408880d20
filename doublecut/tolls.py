"""Tolls and lots that cover worths, and papers by them on what a greatest lay is worth."""

from itertools import combinations

from doublecut.checks import is_from, is_int, is_pair
from doublecut.errors import BadPaper
from doublecut.lays import is_lay
from doublecut.middles import hanging_together
from doublecut.pairing import least_greatest, tables
from doublecut.worths import joint_worths, links_of, need_worths, worth_in

LEAST_LOT = 3


def are_tolls(value, ends):
    """Whether any value is a tuple of an integer from 0 on for each of so many ends."""
    return isinstance(value, tuple) and len(value) == ends and all([is_int(toll) and toll >= 0 for toll in value])


def are_ends(value, ends):
    """Whether any value is an ascending tuple of an odd number, three at least, of so many ends."""
    if not isinstance(value, tuple) or len(value) < LEAST_LOT or len(value) % 2 == 0:
        return False
    if not all([is_from(end, 0, ends - 1) for end in value]):
        return False
    return all([end < after for end, after in zip(value, value[1:])])


def are_lots(value, ends):
    """Whether any value is an ascending tuple of pairs (ENDS, TOLL), no ENDS twice."""
    if not isinstance(value, tuple):
        return False
    ahead = ()
    for lot in value:
        if not is_pair(lot) or not are_ends(lot[0], ends) or not is_int(lot[1]) or lot[1] < 1 or lot[0] <= ahead:
            return False
        ahead = lot[0]
    return True


def left_over(worths, tolls, lots):
    """A dict: for each joint how much more tolls and lots together are than what it is worth, below 0 if they are less.

    These are what are tolls and lots of as many ends.
    """
    known = joint_worths(worths)
    found = {}
    for low, high in combinations(range(len(tolls)), 2):
        with_both = [toll for ends, toll in lots if low in ends and high in ends]
        found[(low, high)] = tolls[low] + tolls[high] + sum(with_both) - known.get((low, high), 0)
    return found


def do_cover(worths, tolls, lots):
    """Whether any values are tolls and lots that cover what are worths."""
    frees = worths[0]
    if not are_tolls(tolls, len(frees)) or not are_lots(lots, len(frees)):
        return False
    if any([toll < worth for toll, worth in zip(tolls, frees)]):
        return False
    return min(list(left_over(worths, tolls, lots).values())) >= 0


def bound_by(tolls, lots):
    """The bound of what are tolls and lots."""
    return sum(tolls) + sum([(len(ends) - 1) // 2 * toll for ends, toll in lots])


def bound_of(worths, tolls, lots):
    """The bound, or None if these are no tolls and lots that cover the worths; BadWorths."""
    return bound_by(tolls, lots) if do_cover(need_worths(worths), tolls, lots) else None


def gains_of(worths):
    """A dict of the joints that are worth more than both their ends are free, and of how much more."""
    frees = worths[0]
    gains = {(low, high): worth - frees[low] - frees[high] for low, high, worth in worths[1]}
    return {joint: gain for joint, gain in gains.items() if gain > 0}


def lessened(gains, joints, toll):
    """The gains, where those of some joints are less by a toll; without what is no gain then."""
    left = {joint: gain - toll if joint in joints else gain for joint, gain in gains.items()}
    return {joint: gain for joint, gain in left.items() if gain > 0}


def needed_end(gains, ends):
    """The pair of an end that is joined in all lays that gain most, and of how much these gain more than others.

    None if there is no such end.
    """
    best, _ = tables([0] * ends, gains)
    whole = len(best) - 1
    for end in range(ends):
        more = best[whole] - best[whole - (1 << end)]
        if more > 0:
            return end, more
    return None


def tolls_and_lots(worths):
    """The pair of tolls and lots that cover what are worths, and whose bound a lay is worth."""
    gains = gains_of(worths)
    tolls = list(worths[0])
    lots = {}
    # Each turn makes what a lay can gain at most less by just what the bound becomes more. Where no end is joined in
    # all lays that gain most, the ends of joints that hang together are odd in number, and in some such lay all of
    # them but one are joined to one another; so with each unit that all these joints gain less, the lays gain half of
    # one less than the number of these ends less.
    while gains:
        needed = needed_end(gains, len(tolls))
        if needed is not None:
            end, more = needed
            tolls[end] += more
            gains = lessened(gains, [joint for joint in gains if end in joint], more)
        else:
            for joints in hanging_together(sorted(gains)):
                ends = tuple(sorted({end for joint in joints for end in joint}))
                lots[ends] = lots.get(ends, 0) + 1
            gains = lessened(gains, list(gains), 1)
    return tuple(tolls), tuple(sorted([(ends, toll) for ends, toll in lots.items()]))


def tolls_paper(worths):
    """A paper on worths; BadWorths."""
    tolls, lots = tolls_and_lots(need_worths(worths))
    return least_greatest(worths), tolls, lots


def is_lay_of(value, links):
    """Whether any value is a lay of so many links."""
    return is_lay(value) and value[0] == links


def need_paper(worths, paper):
    """The paper on worths itself; BadWorths, BadPaper."""
    need_worths(worths)
    if not isinstance(paper, tuple) or len(paper) != 3:
        raise BadPaper("form")
    lay, tolls, lots = paper
    if not is_lay_of(lay, links_of(worths)):
        raise BadPaper("lay")
    if not do_cover(worths, tolls, lots):
        raise BadPaper("tolls")
    if worth_in(worths, lay) != bound_by(tolls, lots):
        raise BadPaper("bound")
    return paper


def check_tolls(worths, paper):
    """What a greatest lay is worth, by a paper; BadWorths, BadPaper."""
    _, tolls, lots = need_paper(worths, paper)
    return bound_by(tolls, lots)


def tight_joints(worths, paper):
    """The ascending tuple of the joints that are worth just what tolls and lots together are; BadWorths, BadPaper."""
    _, tolls, lots = need_paper(worths, paper)
    return tuple(sorted([joint for joint, more in left_over(worths, tolls, lots).items() if more == 0]))


def tight_frees(worths, paper):
    """The ascending tuple of the ends whose toll is just what they are worth free; BadWorths, BadPaper."""
    _, tolls, _ = need_paper(worths, paper)
    return tuple([end for end, toll in enumerate(tolls) if toll == worths[0][end]])
