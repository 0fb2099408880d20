"""Worths: what joints and free ends are worth, and lays by them."""

from doublecut.checks import is_from, is_joint, is_pair
from doublecut.errors import BadWorths, TooGreat
from doublecut.lays import free_of, need_several, need_third, need_two
from doublecut.middles import counts_of

MOST_LINKS_OF_WORTH = 6
MOST_WORTH = 24


def are_frees(value):
    """Whether a value is FREES."""
    if not isinstance(value, tuple) or len(value) % 2 == 1 or not 1 <= len(value) // 2 <= MOST_LINKS_OF_WORTH:
        return False
    return all([is_from(worth, 0, MOST_WORTH) for worth in value])


def is_told_worth(value, links):
    """Whether a value is a triple of the two ends of a joint and of what it is worth."""
    if not isinstance(value, tuple) or len(value) != 3:
        return False
    return is_joint(value[:2], links) and is_from(value[2], 1, MOST_WORTH)


def need_worths(worths):
    """The worths themselves; BadWorths."""
    if not is_pair(worths):
        raise BadWorths(())
    frees, pairs = worths
    if not are_frees(frees):
        raise BadWorths((0,))
    if not isinstance(pairs, tuple):
        raise BadWorths((1,))
    ahead = ()
    for number, told in enumerate(pairs):
        if not is_told_worth(told, len(frees) // 2) or told[:2] <= ahead:
            raise BadWorths((1, number))
        ahead = told[:2]
    return worths


def links_of(worths):
    """Of how many links worths tell."""
    return len(worths[0]) // 2


def joint_worths(worths):
    """A dict of what the joints of PAIRS are worth."""
    return {(low, high): worth for low, high, worth in worths[1]}


def worth_in(worths, lay):
    """What a lay is worth, of what are worths for as many links."""
    known = joint_worths(worths)
    return sum([known.get(joint, 0) for joint in lay[1]]) + sum([worths[0][end] for end in free_of(lay)])


def worth_of(worths, lay):
    """What a lay is worth; BadWorths, BadLay, Unlike."""
    need_worths(worths)
    return worth_in(worths, need_third((links_of(worths), ()), lay))


def need_few(several):
    """The tuple of several lays of so few links that they have worths itself; BadSeveral, Unlike, TooGreat."""
    if need_several(several)[0][0] > MOST_LINKS_OF_WORTH:
        raise TooGreat(MOST_LINKS_OF_WORTH)
    return several


def worths_by(several):
    """The worths of what are several lays of few links."""
    frees = [0] * (2 * several[0][0])
    for lay in several:
        for end in free_of(lay):
            frees[end] += 1
    pairs = sorted([(low, high, 2 * count) for (low, high), count in counts_of(several).items()])
    return tuple(frees), tuple(pairs)


def worths_of(several):
    """The worths of several lays; BadSeveral, Unlike, TooGreat."""
    return worths_by(need_few(several))


def common(one, other):
    """Twice the number of joints and the number of free ends that two lays have in common; BadLay, Unlike."""
    need_two(one, other)
    joints = [joint for joint in one[1] if joint in other[1]]
    free = free_of(other)
    return 2 * len(joints) + len([end for end in free_of(one) if end in free])
