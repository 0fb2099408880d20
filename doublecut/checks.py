"""What values are: the tests of kind that all parts of the package use."""

from doublecut.errors import BadNumber

MOST_LINKS = 12


def is_int(value):
    """Whether a value is an integer."""
    # True and False are ints to Python, but no integers here
    return isinstance(value, int) and not isinstance(value, bool)


def is_from(value, least, most):
    """Whether a value is an integer from least to most."""
    return is_int(value) and least <= value <= most


def is_pair(value):
    """Whether a value is a tuple of two."""
    return isinstance(value, tuple) and len(value) == 2


def is_joint(value, links):
    """Whether a value is a joint of two ends of so many links."""
    if not is_pair(value):
        return False
    low, high = value
    return is_from(low, 0, 2 * links - 1) and is_from(high, low + 1, 2 * links - 1)


def are_joints(value, links):
    """Whether a value is an ascending tuple of joints, no end in two of them."""
    return isinstance(value, tuple) and false_joint(value, links) is None


def false_joint(joints, links):
    """The number of the first thing in a tuple that cannot stand among joints, or None."""
    taken = [False] * (2 * links)
    ahead = ()
    for number, joint in enumerate(joints):
        if not is_joint(joint, links) or joint <= ahead:
            return number
        low, high = joint
        if taken[low] or taken[high]:
            return number
        taken[low] = taken[high] = True
        ahead = joint
    return None


def need_number(value, least, most):
    """An integer from least to most itself; BadNumber."""
    if not is_from(value, least, most):
        raise BadNumber(value)
    return value


def need_links(links):
    """A number of links itself; BadNumber."""
    return need_number(links, 1, MOST_LINKS)
