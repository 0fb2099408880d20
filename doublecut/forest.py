"""The forest of several lays: all their kept lots in trees, and the orders that keep them."""

from itertools import permutations
from math import factorial

from doublecut.checks import is_from, is_pair
from doublecut.errors import BadPaper, TooGreat
from doublecut.kept import greatest_in, is_within, kept_in, strong_in
from doublecut.stretches import lines_of, need_lines_alone

MOST_ORDERS = 2000


def standing(lots, line):
    """A list of lots without a common link, as they stand in a list of links."""
    return sorted(lots, key=lambda lot: line.index(lot[0]))


def tree_of(lot, kept, strong, line):
    """The tree of a strong lot; line is a list of all links as they stand in the first lay."""
    if len(lot) == 1:
        return "link", lot[0]
    within = [other for other in strong if other != lot and is_within(other, lot)]
    parts = standing(greatest_in(within), line)
    # where there are two parts, all their links are the lot itself
    word = "row" if tuple(sorted(parts[0] + parts[1])) in kept else "free"
    return word, tuple([tree_of(part, kept, strong, line) for part in parts])


def forest_of(several):
    """The forest of what are several lays of lines alone."""
    kept = kept_in(several)
    strong = strong_in(kept)
    line = [link for part in lines_of(several[0]) for link in part]
    return tuple([tree_of(lot, kept, strong, line) for lot in standing(greatest_in(kept), line)])


def forest(several):
    """The forest of several lays; BadSeveral, Unlike."""
    return forest_of(need_lines_alone(several))


def is_tree(value, links):
    """Whether any value is a tree in form."""
    if not is_pair(value):
        return False
    word, told = value
    if word == "link":
        return is_from(told, 0, links - 1)
    return word in ("row", "free") and are_trees(told, links) and len(told) > 1


def are_trees(value, links):
    """Whether any value is a tuple of trees in form, not more of them than links."""
    return isinstance(value, tuple) and len(value) <= links and all([is_tree(tree, links) for tree in value])


def links_in(tree):
    """A list of the links of a tree, from left to right."""
    word, told = tree
    return [told] if word == "link" else links_along(told)


def links_along(trees):
    """A list of the links of trees, from left to right."""
    return [link for tree in trees for link in links_in(tree)]


def lot_along(trees):
    """The lot of all links of trees."""
    return tuple(sorted(links_along(trees)))


def lots_in(tree):
    """A list of the lots that a tree tells."""
    word, told = tree
    if word == "link":
        return [(told,)]
    inner = [lot for part in told for lot in lots_in(part)]
    if word == "free":
        return inner + [lot_along(told)]
    many = len(told)
    return inner + [lot_along(told[at:end]) for at in range(many) for end in range(at + 2, many + 1)]


def check_forest(several, paper):
    """How many lots are kept, by a paper on all of them; BadSeveral, Unlike, BadPaper."""
    links = need_lines_alone(several)[0][0]
    if not are_trees(paper, links):
        raise BadPaper("form")
    # each link alone is kept, so it stands just once: this ends what is far too much to be told
    if sorted(links_along(paper)) != list(range(links)):
        raise BadPaper("lots")
    kept = kept_in(several)
    if sorted([lot for tree in paper for lot in lots_in(tree)]) != kept:
        raise BadPaper("lots")
    return len(kept)


def orders_along(trees):
    """In how many orders trees that stay as they stand can be."""
    count = 1
    for tree in trees:
        count = count * orders_in(tree)
    return count


def orders_in(tree):
    """In how many orders the links of a tree can be."""
    word, told = tree
    if word == "link":
        return 1
    return orders_along(told) * (2 if word == "row" else factorial(len(told)))


def orders_of(trees):
    """In how many orders the links of a forest can be."""
    return orders_along(trees) * factorial(len(trees))


def count_orders(several):
    """How many orders keep several lays; BadSeveral, Unlike."""
    return orders_of(forest_of(need_lines_alone(several)))


def keeps(order, kept):
    """Whether in a tuple of all links those of each of these lots stand beside one another."""
    places = {link: at for at, link in enumerate(order)}
    for lot in kept:
        met = [places[link] for link in lot]
        if max(met) - min(met) >= len(lot):
            return False
    return True


def is_order(several, value):
    """Whether any value is an order that keeps several lays; BadSeveral, Unlike."""
    links = need_lines_alone(several)[0][0]
    if not isinstance(value, tuple) or not all([is_from(link, 0, links - 1) for link in value]):
        return False
    return sorted(value) == list(range(links)) and keeps(value, kept_in(several))


def listed_along(trees):
    """A list of the orders of the links of trees that stay as they stand."""
    found = [()]
    for tree in trees:
        found = [order + more for order in found for more in listed_in(tree)]
    return found


def listed_in(tree):
    """A list of the orders of the links of a tree."""
    word, told = tree
    if word == "link":
        return [(told,)]
    if word == "row":
        return listed_along(told) + listed_along(told[::-1])
    return listed_mixed(told)


def listed_mixed(trees):
    """A list of the orders of the links of trees in any order."""
    several = list(trees)
    return [order for mixed in permutations(several) for order in listed_along(mixed)]


def all_orders(several):
    """The ascending tuple of all orders that keep several lays; BadSeveral, Unlike, TooGreat."""
    trees = forest_of(need_lines_alone(several))
    if orders_of(trees) > MOST_ORDERS:
        raise TooGreat(MOST_ORDERS)
    return tuple(sorted(listed_mixed(trees)))
