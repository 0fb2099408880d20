"""Middles: lays whose differences to several ones are least together."""

from doublecut.errors import TooGreat
from doublecut.lays import made_lay, need_several, need_third
from doublecut.single import difference

MOST_MIDDLES = 500


def counts_of(several):
    """A dict: how many of several lays have each joint of any of them."""
    counts = {}
    for _, joints in several:
        for joint in joints:
            counts[joint] = counts.get(joint, 0) + 1
    return counts


def joint_counts(several):
    """The ascending tuple of the pairs of each joint and of how many lays have it; BadSeveral, Unlike."""
    return tuple(sorted([(joint, count) for joint, count in counts_of(need_several(several)).items()]))


def joints_of_most(several):
    """A list of the joints that more than half of several lays have, ascending."""
    return sorted([joint for joint, count in counts_of(several).items() if 2 * count > len(several)])


def joints_of_half(several):
    """A list of the joints that just half of several lays have, ascending."""
    return sorted([joint for joint, count in counts_of(several).items() if 2 * count == len(several)])


def kept_of(several):
    """The lay of the joints that more than half of what are several lays have."""
    return several[0][0], tuple(joints_of_most(several))


def sum_to(several, lay):
    """The sum of the differences of a lay to several ones."""
    return sum([difference(lay, other) for other in several])


def kept_lay(several):
    """The lay of the joints that more than half of several lays have; BadSeveral, Unlike."""
    return kept_of(need_several(several))


def single_sum(several, lay):
    """The sum of a lay; BadSeveral, Unlike, BadLay."""
    need_several(several)
    return sum_to(several, need_third(several[0], lay))


def least_sum(several):
    """The sum of a middle; BadSeveral, Unlike."""
    need_several(several)
    return sum_to(several, kept_of(several))


def is_middle(several, lay):
    """Whether a lay is a middle of several ones; BadSeveral, Unlike, BadLay."""
    return single_sum(several, lay) == sum_to(several, kept_of(several))


def have_common_end(one, other):
    """Whether two joints share an end."""
    return one[0] in other or one[1] in other


def hanging_together(joints):
    """A list of the lists of those joints that hang together by the ends that they share."""
    found = []
    for joint in joints:
        lump = [joint]
        others = []
        for met in found:
            if any([have_common_end(joint, other) for other in met]):
                lump.extend(met)
            else:
                others.append(met)
        found = [*others, lump]
    return found


def row_choices(most):
    """A list: in how many ways some of 0 joints in a row, 1, .., most can be chosen, no two beside one another."""
    counts = [1, 2]
    for _ in range(most - 1):
        counts.append(counts[-1] + counts[-2])
    return counts


def choices_in(joints, counts):
    """In how many ways some of the joints of one row or ring can be chosen, no two of which share an end."""
    many = len(joints)
    ends = len({end for joint in joints for end in joint})
    # a row has one end more than joints; a ring has three joints at least
    return counts[many] if ends > many else counts[many - 1] + counts[many - 3]


def count_middles_of(several):
    """How many middles what are several lays have."""
    half = joints_of_half(several)
    counts = row_choices(len(half))
    product = 1
    for joints in hanging_together(half):
        product = product * choices_in(joints, counts)
    return product


def middle_count(several):
    """How many middles there are; BadSeveral, Unlike."""
    return count_middles_of(need_several(several))


def chosen_apart(joints):
    """A list of the lists of some of the joints, no two of which share an end."""
    found = [[]]
    for joint in joints:
        more = [
            [*chosen, joint] for chosen in found if not any([have_common_end(joint, other) for other in chosen])
        ]
        found = found + more
    return found


def middles(several):
    """The ascending tuple of all middles; BadSeveral, Unlike, TooGreat."""
    if count_middles_of(need_several(several)) > MOST_MIDDLES:
        raise TooGreat(MOST_MIDDLES)
    most = joints_of_most(several)
    chosen = chosen_apart(joints_of_half(several))
    return tuple(sorted([made_lay(several[0][0], most + joints) for joints in chosen]))
