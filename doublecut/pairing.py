"""Greatest lays: those that are worth as much as any."""

from doublecut.worths import joint_worths, links_of, need_few, need_worths, worths_by


def ends_in(lot):
    """A list of the ends of a lot that is told as the bits of an integer, ascending."""
    return [end for end in range(lot.bit_length()) if lot >> end & 1]


def lot_as_bits(ends):
    """The lot of a list of unlike ends, as the bits of an integer."""
    return sum([1 << end for end in ends])


def tables(frees, known):
    """A list of what the ends of each lot can be worth at most, and one of in how many ways; lots are told as bits.

    known is a dict of what joints are worth; others are worth 0.
    """
    best, counts = [0], [1]
    for lot in range(1, 1 << len(frees)):
        last = lot.bit_length() - 1
        left = lot - (1 << last)
        greatest, count = best[left] + frees[last], counts[left]
        for mate in ends_in(left):
            behind = left - (1 << mate)
            worth = best[behind] + known.get((mate, last), 0)
            if worth == greatest:
                count += counts[behind]
            if worth > greatest:
                greatest, count = worth, counts[behind]
        best.append(greatest)
        counts.append(count)
    return best, counts


def tables_of(worths):
    """The same two lists, of what are worths."""
    return tables(worths[0], joint_worths(worths))


def greatest_worth(worths):
    """What a greatest lay is worth; BadWorths."""
    return tables_of(need_worths(worths))[0][-1]


def next_joint(worths, best, left):
    """The least joint with which a greatest lay of the ends left begins, and the ends behind; None if all are free."""
    frees, known = worths[0], joint_worths(worths)
    ends = ends_in(left)
    # without a joint is ahead of all that have one
    if sum([frees[end] for end in ends]) == best[left]:
        return None
    free = 0
    for at, low in enumerate(ends):
        behind = lot_as_bits(ends[at + 1:])
        for high in ends[at + 1:]:
            rest = behind - (1 << high)
            if free + known.get((low, high), 0) + best[rest] == best[left]:
                return (low, high), rest
        free += frees[low]


def least_greatest(worths):
    """The least greatest lay, by its joints, of what are worths."""
    best, _ = tables_of(worths)
    left = len(best) - 1
    joints = []
    while (found := next_joint(worths, best, left)) is not None:
        joint, left = found
        joints.append(joint)
    return links_of(worths), tuple(joints)


def greatest_lay(worths):
    """The least greatest lay, by its joints; BadWorths."""
    return least_greatest(need_worths(worths))


def greatest_count(worths):
    """How many greatest lays there are, of what are worths."""
    return tables_of(worths)[1][-1]


def count_greatest(worths):
    """How many greatest lays there are; BadWorths."""
    return greatest_count(need_worths(worths))


def joints_met(worths):
    """A list of the pairs of each joint of any greatest lay, ascending, and of how many of them have it."""
    known = joint_worths(worths)
    best, counts = tables_of(worths)
    whole = len(best) - 1
    ends = ends_in(whole)
    found = []
    for low in ends:
        for high in ends[low + 1:]:
            rest = whole - (1 << low) - (1 << high)
            if known.get((low, high), 0) + best[rest] == best[whole]:
                found.append(((low, high), counts[rest]))
    return found


def sure_joints(worths):
    """The ascending tuple of the joints that all greatest lays have; BadWorths."""
    many = greatest_count(need_worths(worths))
    return tuple([joint for joint, count in joints_met(worths) if count == many])


def possible_joints(worths):
    """The ascending tuple of the joints that some greatest lay has; BadWorths."""
    return tuple([joint for joint, _ in joints_met(need_worths(worths))])


def sure_frees(worths):
    """The ascending tuple of the ends that are free in all greatest lays; BadWorths."""
    met = {end: True for joint, _ in joints_met(need_worths(worths)) for end in joint}
    return tuple([end for end in range(len(worths[0])) if end not in met])


def middle_of(several):
    """The least kept middle, by its joints; BadSeveral, Unlike, TooGreat."""
    return least_greatest(worths_by(need_few(several)))


def count_middles(several):
    """How many kept middles there are; BadSeveral, Unlike, TooGreat."""
    return greatest_count(worths_by(need_few(several)))
