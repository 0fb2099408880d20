"""LOTS: the pieces of a web without their ends, and how good steps change them."""

from math import comb

from doublecut.checks import is_int, is_pair
from doublecut.errors import BadLot
from doublecut.lays import made_lay, need_two
from doublecut.webs import piece_cost, sizes_of

MOST_ENDS = 24


def is_piece(value):
    """Whether a value is a PIECE."""
    if not is_pair(value):
        return False
    kind, size = value
    if kind == "odd":
        return is_int(size) and size >= 1 and size % 2 == 1
    return kind in ("ring", "open", "shut") and is_int(size) and size >= 2 and size % 2 == 0


def ends_of(lot):
    """How many ends the pieces of a lot have."""
    return sum([size for _, size in lot])


def need_lot(value):
    """The LOT itself; BadLot."""
    if not isinstance(value, tuple) or value == ():
        raise BadLot(())
    for number, piece in enumerate(value):
        if not is_piece(piece) or (number > 0 and piece < value[number - 1]):
            raise BadLot((number,))
    if ends_of(value) > MOST_ENDS or ends_of(value) % 2 == 1:
        raise BadLot(())
    return value


def lot_of(one, other):
    """The LOT of two lays; BadLay, Unlike."""
    need_two(one, other)
    return sizes_of(one, other)


def costs_in(lot):
    """A list of what the pieces of a lot cost."""
    return [piece_cost(kind, size) for kind, size in lot]


def lot_cost(lot):
    """What a LOT costs; BadLot."""
    return sum(costs_in(need_lot(lot)))


def piece_of(kind, cost):
    """The PIECE of a kind that has this cost, or None: an open or a shut one without ends is none."""
    if kind == "ring":
        return kind, 2 * cost + 2
    if kind == "odd":
        return kind, 2 * cost + 1
    return (kind, 2 * cost) if cost > 0 else None


def split_ways(kind, cost):
    """A list of how a piece of this kind and cost becomes one more of its kind and a ring.

    Each is the pair of the PIECES that come, and of how many good steps make them.
    """
    ways = []
    for left in range(cost):
        parts = [piece_of("ring", cost - 1 - left), piece_of(kind, left)]
        # two unlike rings come twice here, in D + 1 ways together; of a shut piece nothing is left in no way
        many = left if kind == "shut" else left + 1
        if many > 0:
            ways.append(([part for part in parts if part is not None], many))
    return ways


def halves_of_shut(cost):
    """A list of how a shut piece of this cost becomes two odd ones: unlike ones come twice, by one good step each."""
    return [([piece_of("odd", left), piece_of("odd", cost - 1 - left)], 1) for left in range(cost)]


def ways_of_piece(piece):
    """A list of the pairs of the PIECES that a piece becomes by good steps within it, and of how many do so."""
    kind, size = piece
    cost = piece_cost(kind, size)
    ways = split_ways(kind, cost)
    return ways + halves_of_shut(cost) if kind == "shut" else ways


def ways_of_two(cost, shut_cost):
    """A list of the PIECES that an open and a shut piece of these costs become, and of how many good steps do so."""
    ways = []
    for left in range(cost + 1):
        for right in range(shut_cost):
            parts = [piece_of("odd", left + right), piece_of("odd", cost + shut_cost - 1 - left - right)]
            ways.append((parts, 2))
    return ways


def changed(lot, gone, parts):
    """The lot with these parts in the place of those that are gone."""
    left = list(lot)
    for piece in gone:
        left.remove(piece)
    return tuple(sorted(left + parts))


def ways_in(lot):
    """A list of the pairs of a lot into which good steps change this one, and of how many; one lot perhaps often."""
    unlike = sorted(set(lot))
    found = []
    for piece in unlike:
        for parts, many in ways_of_piece(piece):
            found.append((changed(lot, [piece], parts), many * lot.count(piece)))
    opens = [piece for piece in unlike if piece[0] == "open"]
    shuts = [piece for piece in unlike if piece[0] == "shut"]
    for one in opens:
        for other in shuts:
            pairs = lot.count(one) * lot.count(other)
            for parts, many in ways_of_two(one[1] // 2, other[1] // 2):
                found.append((changed(lot, [one, other], parts), many * pairs))
    return found


def summed_ways(lot):
    """The ascending list of the pairs of a lot into which good steps change this one, and of how many do."""
    counts = {}
    for behind, many in ways_in(lot):
        counts[behind] = counts.get(behind, 0) + many
    return sorted([(behind, many) for behind, many in counts.items()])


def lot_ways(lot):
    """The ascending tuple of the pairs of the LOTS into which good steps change it, and of how many do; BadLot."""
    return tuple(summed_ways(need_lot(lot)))


def power(base, times):
    """A number taken so many times by itself."""
    result = 1
    for _ in range(times):
        result = result * base
    return result


def product_of(lot):
    """The PRODUCT of what is a lot, perhaps without pieces."""
    product = 1
    done = 0
    for cost in costs_in(lot):
        # the steps of this piece can be mixed in any way with those of the pieces ahead
        done += cost
        product = product * comb(done, cost) * power(cost + 1, cost - 1)
    return product


def number_of_lot(lot, known):
    """The NUMBER of what is a lot, perhaps without pieces; known keeps such numbers."""
    words = [kind for kind, _ in lot]
    if "open" not in words or "shut" not in words:
        return product_of(lot)
    # pieces that cost nothing change into nothing
    costly = tuple([piece for piece in lot if piece_cost(piece[0], piece[1]) > 0])
    if costly not in known:
        known[costly] = sum([many * number_of_lot(behind, known) for behind, many in summed_ways(costly)])
    return known[costly]


def lot_count(lot):
    """The NUMBER of a LOT; BadLot."""
    return number_of_lot(need_lot(lot), {})


def lot_product(lot):
    """The PRODUCT of a LOT; BadLot."""
    return product_of(need_lot(lot))


def joined_by_two(ends):
    """A list of joints of the first end and the next one, of the two behind them, and so on."""
    return [(ends[at], ends[at + 1]) for at in range(0, len(ends) - 1, 2)]


def lays_of(lot):
    """A pair of lays whose web has this LOT; BadLot."""
    need_lot(lot)
    first, second = [], []
    begun = 0
    for kind, size in lot:
        row = list(range(begun, begun + size))
        begun += size
        straight, shifted = joined_by_two(row), joined_by_two(row[1:])
        if kind == "ring":
            shifted.append((row[0], row[-1]))
        if kind == "open":
            straight, shifted = shifted, straight
        first.extend(straight)
        second.extend(shifted)
    return made_lay(begun // 2, first), made_lay(begun // 2, second)
