"""Trees of lays: labels for their forks, the least sum of such labels, and papers on it."""

from doublecut.checks import is_from, is_joint, is_pair
from doublecut.errors import BadPaper, BadTree
from doublecut.lays import is_lay
from doublecut.single import difference

MOST_LEAVES = 8


def begins_fork(value, many):
    """Whether any value is a tuple of so many things with "fork" first."""
    return isinstance(value, tuple) and len(value) == many and value[0] == "fork"


def false_path(tree, path, found):
    """The path to the first thing that cannot stand in a tree, or None; the lays ahead of it are put to found."""
    if begins_fork(tree, 3):
        for side in (1, 2):
            wrong = false_path(tree[side], (*path, side), found)
            if wrong is not None:
                return wrong
        return None
    if not is_lay(tree) or len(found) == MOST_LEAVES:
        return path
    found.append(tree)
    return path if tree[0] != found[0][0] else None


def leaves_of(tree):
    """A list of the lays of a tree, from left to right; BadTree."""
    found = []
    path = false_path(tree, (), found)
    if path is not None:
        raise BadTree(path)
    return found


def need_tree(tree):
    """The tree itself; BadTree."""
    leaves_of(tree)
    return tree


def leaves(tree):
    """The tuple of the lays of a tree, from left to right; BadTree."""
    return tuple(leaves_of(tree))


def shape_of(tree, found):
    """What is a tree as pairs, with the numbers of its lays in their places; the lays are put to found."""
    if begins_fork(tree, 3):
        return shape_of(tree[1], found), shape_of(tree[2], found)
    found.append(tree)
    return len(found) - 1


def led_up(shape, has, ways):
    """The number of a lay that has a joint, or has it not, as is best at the top of a shape; None if either does.

    has tells of each lay whether it has the joint. The pairs of lays at the two sides of each fork at which either does
    first are put to ways; no branch is in two of these, and none on the way from the top to the lay that is told.
    """
    if not isinstance(shape, tuple):
        return shape
    left, right = [led_up(part, has, ways) for part in shape]
    if left is None or right is None:
        return left if right is None else right
    if has[left] == has[right]:
        return left
    ways.append((left, right))
    return None


def joints_in(lays):
    """A list of the joints that any of these lays has, ascending."""
    return sorted({joint for _, joints in lays for joint in joints})


def which_have(lays, joint):
    """A list of whether each lay has a joint."""
    return [joint in joints for _, joints in lays]


def ways_of(tree):
    """The ascending list of triples of a joint and the numbers of two lays, one for each unit of the least sum."""
    lays = []
    shape = shape_of(tree, lays)
    found = []
    for joint in joints_in(lays):
        ways = []
        led_up(shape, which_have(lays, joint), ways)
        found.extend([(joint, one, other) for one, other in ways])
    return sorted(found)


def tree_sum(tree):
    """The least sum of any labels of a tree; BadTree."""
    return len(ways_of(need_tree(tree)))


def is_present(shape, has, above):
    """Whether a joint is present at a fork in the plain labels; above tells whether it is at the fork above."""
    best = led_up(shape, has, [])
    return above if best is None else has[best]


def plain_on(shape, lays, above):
    """The plain labels of a shape; above are the joints at the fork above."""
    if not isinstance(shape, tuple):
        return lays[shape]
    found = []
    for joint in joints_in(lays):
        if is_present(shape, which_have(lays, joint), joint in above):
            found.append(joint)
    left, right = [plain_on(part, lays, found) for part in shape]
    return "fork", (lays[0][0], tuple(found)), left, right


def plain_of(tree):
    """The plain labels of what is a tree."""
    lays = []
    shape = shape_of(tree, lays)
    return plain_on(shape, lays, [])


def tree_labels(tree):
    """The plain labels of a tree; BadTree."""
    return plain_of(need_tree(tree))


def are_labels(tree, links, value):
    """Whether any value is labels of what is a tree of lays of so many links."""
    if not begins_fork(tree, 3):
        return is_lay(value) and value == tree
    if not begins_fork(value, 4) or not is_lay(value[1]) or value[1][0] != links:
        return False
    return are_labels(tree[1], links, value[2]) and are_labels(tree[2], links, value[3])


def top_of(labels):
    """The lay at the top of labels."""
    return labels[1] if begins_fork(labels, 4) else labels


def sum_along(labels):
    """The sum of the differences along all branches of labels."""
    if not begins_fork(labels, 4):
        return 0
    _, lay, left, right = labels
    return difference(lay, top_of(left)) + difference(lay, top_of(right)) + sum_along(left) + sum_along(right)


def labels_sum(tree, labels):
    """The sum of labels; BadTree, BadPaper."""
    links = leaves_of(tree)[0][0]
    if not are_labels(tree, links, labels):
        raise BadPaper("labels")
    return sum_along(labels)


def are_least(tree, value):
    """Whether any value is labels of the tree with the least sum; BadTree."""
    links = leaves_of(tree)[0][0]
    return are_labels(tree, links, value) and sum_along(value) == len(ways_of(tree))


def tree_paper(tree):
    """A paper on the least sum of a tree; BadTree."""
    need_tree(tree)
    return plain_of(tree), tuple(ways_of(tree))


def paths_in(shape, path):
    """A list of the paths to the lays of a shape, from left to right."""
    if not isinstance(shape, tuple):
        return [path]
    return [met for side, part in enumerate(shape) for met in paths_in(part, (*path, side))]


def branches_between(one, other):
    """A list of the branches between two lays with these paths, each told by the path to what is below it."""
    ones = [one[:at + 1] for at in range(len(one))]
    others = [other[:at + 1] for at in range(len(other))]
    return [branch for branch in ones if branch not in others] + [branch for branch in others if branch not in ones]


def is_way(lays, value):
    """Whether any value is a triple (JOINT, I, J), I less than J, of a joint that just one of two lays has."""
    if not isinstance(value, tuple) or len(value) != 3:
        return False
    joint, one, other = value
    if not is_joint(joint, lays[0][0]) or not is_from(one, 0, len(lays) - 1):
        return False
    return is_from(other, one + 1, len(lays) - 1) and (joint in lays[one][1]) != (joint in lays[other][1])


def are_ways(tree, value):
    """Whether any value is an ascending tuple of ways, none of one joint with a common branch."""
    if not isinstance(value, tuple):
        return False
    lays = []
    paths = paths_in(shape_of(tree, lays), ())
    used = {}
    ahead = ()
    for way in value:
        if not is_way(lays, way) or way <= ahead:
            return False
        joint, one, other = way
        for branch in branches_between(paths[one], paths[other]):
            if (joint, branch) in used:
                return False
            used[(joint, branch)] = True
        ahead = way
    return True


def check_tree(tree, paper):
    """The least sum of a tree, by a paper that holds; BadTree, BadPaper."""
    links = leaves_of(tree)[0][0]
    if not is_pair(paper):
        raise BadPaper("form")
    labels, ways = paper
    if not are_labels(tree, links, labels):
        raise BadPaper("labels")
    if not are_ways(tree, ways):
        raise BadPaper("ways")
    if len(ways) != sum_along(labels):
        raise BadPaper("sum")
    return len(ways)
