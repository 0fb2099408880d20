"""How many lays, steps and histories there are; lays by numbers."""

from doublecut.checks import need_links, need_number
from doublecut.errors import TooGreat
from doublecut.histories import MOST_STEPS
from doublecut.lays import need_lay

MOST_LISTED = 4
MOST_LAYS_LISTED = 1000
MOST_CHAINS = 12


def pairing_counts(most):
    """A list: in how many ways some of 0 things, of 1, and so on up to most, can be paired."""
    counts = [1, 1]
    for things in range(2, most + 1):
        # the last thing is left alone, or paired with one of the others
        counts.append(counts[-1] + (things - 1) * counts[-2])
    return counts


def count_lays(links):
    """How many lays of so many links there are; BadNumber."""
    need_links(links)
    return pairing_counts(2 * links)[2 * links]


def chain_table(links):
    """A dict: how many lays of so many links have (lines, rings)."""
    table = {(0, 0): 1}
    for ahead in range(links):
        more = {}
        for (lines, rings), count in table.items():
            # one link more is alone, open or joined to itself; or it lies
            # either way round at a free end or in a joint of the others
            ways_on = [((lines + 1, rings), 1), ((lines, rings + 1), 1), ((lines, rings), 2 * (ahead + lines))]
            for key, ways in ways_on:
                more[key] = more.get(key, 0) + ways * count
        table = more
    return table


def count_with(links, lines, rings):
    """How many lays of so many links have so many lines and rings; BadNumber of each."""
    need_links(links)
    need_number(lines, 0, MOST_CHAINS)
    need_number(rings, 0, MOST_CHAINS)
    return chain_table(links).get((lines, rings), 0)


def listed_lays(links):
    """A list of all lays of so many links, ascending by their joints."""
    left = list(range(2 * links))
    return [(links, joints) for joints in listed_joints(left)]


def listed_joints(left):
    """A list of all ascending tuples of joints of these ends, no end in two of them, ascending."""
    found = [()]
    for at, low in enumerate(left):
        for place in range(at + 1, len(left)):
            behind = left[at + 1:place] + left[place + 1:]
            found.extend([((low, left[place]), *joints) for joints in listed_joints(behind)])
    return found


def all_lays(links):
    """The ascending tuple of all lays of so many links; BadNumber, TooGreat."""
    need_links(links)
    if links > MOST_LISTED:
        raise TooGreat(MOST_LAYS_LISTED)
    return tuple(listed_lays(links))


def next_counts(ends, counts):
    """A list: of the lays whose next joint is one of so many ends, how many take the first end, the second, .."""
    return [(ends - 1 - at) * counts[ends - 2 - at] for at in range(ends - 1)]


def lay_number(lay):
    """The number of a lay; BadLay."""
    links, joints = need_lay(lay)
    counts = pairing_counts(2 * links)
    left = list(range(2 * links))
    number = 0
    for low, high in joints:
        at, place = left.index(low), left.index(high)
        # the lay that ends here stands ahead of all that have a next joint
        number += 1 + sum(next_counts(len(left), counts)[:at])
        number += (place - at - 1) * counts[len(left) - 2 - at]
        left = left[at + 1:place] + left[place + 1:]
    return number


def lay_by_number(links, number):
    """The lay of so many links with a number; BadNumber of each."""
    need_number(number, 0, count_lays(links) - 1)
    counts = pairing_counts(2 * links)
    left = list(range(2 * links))
    joints = []
    behind = number
    while behind > 0:
        behind -= 1
        at = 0
        for count in next_counts(len(left), counts):
            if behind < count:
                break
            behind -= count
            at += 1
        skipped, behind = divmod(behind, counts[len(left) - 2 - at])
        place = at + 1 + skipped
        joints.append((left[at], left[place]))
        left = left[at + 1:place] + left[place + 1:]
    return links, tuple(joints)


def step_counts(links, joints):
    """How many steps of a lay with so many links and joints make one joint less, as many, one more."""
    free = 2 * links - 2 * joints
    return joints, joints * (joints - 1) + 2 * joints * free, free * (free - 1) // 2


def count_steps(lay):
    """How many steps a lay has; BadLay."""
    links, joints = need_lay(lay)
    return sum(step_counts(links, len(joints)))


def count_histories(lay, many):
    """How many histories of so many steps begin with a lay; BadLay, BadNumber."""
    links, joints = need_lay(lay)
    need_number(many, 0, MOST_STEPS)
    reached = {len(joints): 1}
    for _ in range(many):
        more = {}
        for here, count in reached.items():
            for change, ways in enumerate(step_counts(links, here)):
                if ways > 0:
                    behind = here + change - 1
                    more[behind] = more.get(behind, 0) + ways * count
        reached = more
    return sum(list(reached.values()))
