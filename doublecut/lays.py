"""Lays: links whose ends are joined by two, or free."""

from doublecut.checks import MOST_LINKS, are_joints, false_joint, is_from, is_int, is_pair
from doublecut.errors import BadEnd, BadLay, BadLink, BadNumber, BadSeveral, TooGreat, Unlike

MOST_LAYS = 6


def is_lay(value):
    """Whether any value is a lay."""
    if not is_pair(value):
        return False
    links, joints = value
    return is_from(links, 1, MOST_LINKS) and are_joints(joints, links)


def need_lay(lay):
    """The lay itself; BadLay."""
    if not is_pair(lay):
        raise BadLay(())
    links, joints = lay
    if not is_from(links, 1, MOST_LINKS):
        raise BadLay((0,))
    if not isinstance(joints, tuple):
        raise BadLay((1,))
    number = false_joint(joints, links)
    if number is not None:
        raise BadLay((1, number))
    return lay


def need_two(one, other):
    """The pair of two lays of as many links; BadLay, Unlike."""
    need_lay(one)
    need_lay(other)
    need_alike([one, other])
    return one, other


def need_alike(lays):
    """Nothing, where all lays have as many links; Unlike."""
    if any([lay[0] != lays[0][0] for lay in lays]):
        raise Unlike()


def need_third(one, third):
    """A lay of as many links as one itself; BadLay, Unlike."""
    need_lay(third)
    need_alike([one, third])
    return third


def need_several(several):
    """The tuple of several lays itself; BadSeveral, Unlike."""
    if not isinstance(several, tuple) or not 1 <= len(several) <= MOST_LAYS:
        raise BadSeveral(None)
    for number, lay in enumerate(several):
        if not is_lay(lay):
            raise BadSeveral(number)
    need_alike(several)
    return several


def need_end(lay, end):
    """The number of an end of a lay itself; BadEnd."""
    if not is_from(end, 0, 2 * lay[0] - 1):
        raise BadEnd(end)
    return end


def need_link(lay, link):
    """The number of a link of a lay itself; BadLink."""
    if not is_from(link, 0, lay[0] - 1):
        raise BadLink(link)
    return link


def joint_of(one, other):
    """The joint of two unlike ends, in any order."""
    return (one, other) if one < other else (other, one)


def made_lay(links, pairs):
    """The lay with these joints, each pair of ends and all of them in any order."""
    return links, tuple(sorted([joint_of(one, other) for one, other in pairs]))


def mates(lay):
    """A list of the mates of all ends, None for that of a free one."""
    links, joints = lay
    found = [None] * (2 * links)
    for low, high in joints:
        found[low] = high
        found[high] = low
    return found


def free_of(lay):
    """A list of the free ends of what is a lay, ascending."""
    return [end for end, mate in enumerate(mates(lay)) if mate is None]


def free_ends(lay):
    """The ascending tuple of the free ends; BadLay."""
    return tuple(free_of(need_lay(lay)))


def mate_of(lay, end):
    """The mate of an end, or None; BadLay, BadEnd."""
    need_lay(lay)
    return mates(lay)[need_end(lay, end)]


def is_order(value, links):
    """Whether a value can rename so many links."""
    if not isinstance(value, tuple) or not all([is_int(told) for told in value]):
        return False
    return sorted([abs(told) for told in value]) == list(range(1, links + 1))


def renamed_end(end, order):
    """Which end this becomes by an order."""
    told = order[end // 2]
    near = 2 * (abs(told) - 1)
    at_near = end % 2 == 0
    return near if at_near == (told > 0) else near + 1


def renamed(lay, order):
    """The lay renamed; BadLay, BadNumber."""
    need_lay(lay)
    links, joints = lay
    if not is_order(order, links):
        raise BadNumber(order)
    return made_lay(links, [(renamed_end(low, order), renamed_end(high, order)) for low, high in joints])


def end_without(end, link):
    """Which end this becomes when another link is taken out."""
    return end - 2 if end > 2 * link else end


def without(lay, link):
    """The lay without a link; BadLay, BadLink."""
    need_lay(lay)
    links, joints = lay
    need_link(lay, link)
    if links == 1:
        raise BadLink(link)
    near, far = 2 * link, 2 * link + 1
    left = [joint for joint in joints if near not in joint and far not in joint]
    mate = mates(lay)
    if mate[near] is not None and mate[far] is not None and mate[near] != far:
        left.append((mate[near], mate[far]))
    return made_lay(links - 1, [(end_without(low, link), end_without(high, link)) for low, high in left])


def beside(one, other):
    """Both lays beside one another; BadLay, TooGreat."""
    need_lay(one)
    need_lay(other)
    if one[0] + other[0] > MOST_LINKS:
        raise TooGreat(MOST_LINKS)
    more = 2 * one[0]
    return one[0] + other[0], one[1] + tuple([(low + more, high + more) for low, high in other[1]])
