"""Webs: two lays of the same links at once, and what hangs together in them."""

from doublecut.lays import mates, need_end, need_two

KINDS = ("ring", "odd", "open", "shut")


def row_along(first, second, begun):
    """A list of the ends from one on, led by the mates of first and second in turn."""
    row = [begun]
    here = first[begun]
    while here is not None and here != begun:
        row.append(here)
        first, second = second, first
        here = first[here]
    return row


def path_from(ones, others, end):
    """The kind and the row of a piece that is no ring, begun with an end that is its last one."""
    if ones[end] is None:
        row = row_along(others, ones, end)
        kind = "open"
    else:
        row = row_along(ones, others, end)
        kind = "shut"
    return ("odd" if len(row) % 2 == 1 else kind), tuple(row)


def web_of(one, other):
    """A list of the pairs of kind and row of all pieces, ascending by their rows, of what are two lays."""
    ones, others = mates(one), mates(other)
    ends = range(len(ones))
    seen = [False] * len(ones)
    found = []
    for end in ends:
        if not seen[end] and (ones[end] is None or others[end] is None):
            found.append(path_from(ones, others, end))
            for met in found[-1][1]:
                seen[met] = True
    # what is left lies in rings
    for end in ends:
        if not seen[end]:
            found.append(("ring", tuple(row_along(ones, others, end))))
            for met in found[-1][1]:
                seen[met] = True
    return sorted(found, key=lambda piece: piece[1])


def piece_cost(kind, size):
    """What a piece of this kind with so many ends costs."""
    return size // 2 - 1 if kind == "ring" else size // 2


def sizes_of(one, other):
    """The tuple of the pairs of kind and size of all pieces, ascending, of what are two lays."""
    return tuple(sorted([(kind, len(row)) for kind, row in web_of(one, other)]))


def pieces(one, other):
    """The tuple of the pairs (KIND, SIZE) of all pieces of the web, ascending; BadLay, Unlike."""
    need_two(one, other)
    return sizes_of(one, other)


def kinds(one, other):
    """How many pieces are rings, odd, open, shut; BadLay, Unlike."""
    need_two(one, other)
    found = [kind for kind, _ in sizes_of(one, other)]
    return tuple([found.count(kind) for kind in KINDS])


def rows(one, other):
    """The ascending tuple of a row for each piece; BadLay, Unlike."""
    need_two(one, other)
    return tuple([row for _, row in web_of(one, other)])


def row_of(one, other, end):
    """The row of the piece that has an end; BadLay, Unlike, BadEnd."""
    need_two(one, other)
    need_end(one, end)
    return [row for _, row in web_of(one, other) if end in row][0]
