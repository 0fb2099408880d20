"""Stretches: links that stand beside one another in a line; papers on whether they do in each of several lays."""

from doublecut.chains import has_ring, line_readings
from doublecut.checks import is_from, is_pair
from doublecut.errors import BadLink, BadPaper, BadSeveral
from doublecut.lays import need_several

# each word of a paper, and how many things it wants behind it
WANTED = (("kept", 1), ("apart", 3), ("torn", 4))


def need_lines_alone(several):
    """The tuple of several lays without rings itself; BadSeveral, Unlike."""
    need_several(several)
    for number, lay in enumerate(several):
        if has_ring(lay):
            raise BadSeveral(number)
    return several


def is_lot(value, links):
    """Whether a value is an ascending tuple of one link or more."""
    if not isinstance(value, tuple) or value == () or not all([is_from(link, 0, links - 1) for link in value]):
        return False
    return all([link < after for link, after in zip(value, value[1:])])


def need_lot_of(several, lot):
    """A lot of the links of several lays itself; BadLink."""
    if not is_lot(lot, several[0][0]):
        raise BadLink(lot)
    return lot


def lines_of(lay):
    """A list of the lists of the links of each line, as the tidy chains tell them."""
    return [[abs(told) - 1 for told in reading] for reading in line_readings(lay)]


def places_in(lay):
    """A dict: for each link the pair of the number of its line and of its place there."""
    return {link: (number, at) for number, line in enumerate(lines_of(lay)) for at, link in enumerate(line)}


def first_place(places, lot):
    """The pair of the line in which a lot stands, and of the place of its first link there, None if it is no stretch.

    places is the dict of a lay.
    """
    met = sorted([places[link] for link in lot])
    # as many places, all of one line, from the first one to the last one, leave no other link between
    line, at = met[0]
    return met[0] if met[-1] == (line, at + len(lot) - 1) else None


def listed_stretches(lay):
    """A list of all lots that are stretches of a lay, ascending."""
    found = []
    for line in lines_of(lay):
        for at in range(len(line)):
            found.extend([tuple(sorted(line[at:end])) for end in range(at + 1, len(line) + 1)])
    return sorted(found)


def stretches(several, number):
    """The ascending tuple of all lots that are stretches of the lay with a number; BadSeveral, Unlike, BadLink."""
    need_lines_alone(several)
    if not is_from(number, 0, len(several) - 1):
        raise BadLink(number)
    return tuple(listed_stretches(several[number]))


def places_of(several, lot):
    """A list of where a lot stands in each of several lays, None where it is no stretch."""
    return [first_place(places_in(lay), lot) for lay in several]


def is_kept(several, lot):
    """Whether a lot is kept; BadSeveral, Unlike, BadLink."""
    need_lines_alone(several)
    return None not in places_of(several, need_lot_of(several, lot))


def torn_paper(number, lay, lot):
    """A paper that a lot is no stretch of the lay with a number, which it is not."""
    places = places_in(lay)
    standing = sorted(lot, key=lambda link: places[link])
    first, last = standing[0], standing[-1]
    if places[first][0] != places[last][0]:
        return "apart", number, first, last
    line = lines_of(lay)[places[first][0]]
    stretch = line[places[first][1]:places[last][1]]
    return "torn", number, first, [link for link in stretch if link not in lot][0], last


def lot_paper(several, lot):
    """A paper on whether a lot is kept; BadSeveral, Unlike, BadLink."""
    need_lines_alone(several)
    found = places_of(several, need_lot_of(several, lot))
    if None not in found:
        return "kept", tuple(found)
    number = found.index(None)
    return torn_paper(number, several[number], lot)


def are_places(several, lot, told):
    """Whether any value tells where the lot stands in each lay."""
    if not isinstance(told, tuple) or not all([is_pair(pair) for pair in told]):
        return False
    numbers = [number for pair in told for number in pair]
    return all([is_from(number, 0, several[0][0]) for number in numbers]) and list(told) == places_of(several, lot)


def is_among(value, lot):
    """Whether any value is a link of a lot."""
    return is_from(value, lot[0], lot[-1]) and value in lot


def are_apart(several, lot, told):
    """Whether any three values tell a lay, and two links of the lot that stand in unlike lines there."""
    number, one, other = told
    if not is_from(number, 0, len(several) - 1) or not all([is_among(link, lot) for link in (one, other)]):
        return False
    places = places_in(several[number])
    return places[one][0] != places[other][0]


def are_torn(several, lot, told):
    """Whether any four values tell a lay, and two links of the lot with another one between them there."""
    number, one, between, other = told
    if not is_from(number, 0, len(several) - 1) or not all([is_among(link, lot) for link in (one, other)]):
        return False
    if not is_from(between, 0, several[0][0] - 1) or between in lot:
        return False
    places = places_in(several[number])
    # what stands between two links of one line is in this line itself
    return places[one][0] == places[other][0] and places[one] < places[between] < places[other]


def is_as_told(several, lot, word, told):
    """Whether what stands behind a word of a paper is as this wants it."""
    if word == "kept":
        return are_places(several, lot, told[0])
    return are_apart(several, lot, told) if word == "apart" else are_torn(several, lot, told)


def check_lot(several, lot, paper):
    """The word of a paper on whether a lot is kept; BadSeveral, Unlike, BadLink, BadPaper."""
    need_lines_alone(several)
    need_lot_of(several, lot)
    if not isinstance(paper, tuple) or paper == () or (paper[0], len(paper) - 1) not in WANTED:
        raise BadPaper("form")
    word, *told = paper
    if not is_as_told(several, lot, word, told):
        raise BadPaper(word)
    return word
