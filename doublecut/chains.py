"""Chains: the lines and rings of a lay, read link by link."""

from doublecut.checks import MOST_LINKS, is_from, is_pair
from doublecut.errors import BadChains
from doublecut.lays import free_of, made_lay, mates, need_lay, need_link


def told_by(end):
    """How a link is told when it is come to by this end."""
    link = end // 2 + 1
    return link if end % 2 == 0 else -link


def entry(told):
    """The end by which a link that is told so is come to."""
    return 2 * told - 2 if told > 0 else -2 * told - 1


def fellow(end):
    """The other end of the same link."""
    return end + 1 if end % 2 == 0 else end - 1


def reading_from(mate, first):
    """The reading that begins by an end, up to a free end or to where it began."""
    told = [told_by(first)]
    here = mate[fellow(first)]
    while here is not None and here != first:
        told.append(told_by(here))
        here = mate[fellow(here)]
    return tuple(told)


def line_readings(lay):
    """The greatest readings of the lines of a lay, ascending."""
    mate = mates(lay)
    found = [reading_from(mate, end) for end in free_of(lay)]
    # each line is read from both its free ends, and the one reading is the other one backwards with all signs turned
    return sorted([reading for reading in found if reading[0] > -reading[-1]])


def ring_readings(lay, lines):
    """The greatest readings of the rings of a lay with these lines, ascending."""
    mate = mates(lay)
    seen = {abs(told): True for reading in lines for told in reading}
    found = []
    for link in range(lay[0], 0, -1):
        if link not in seen:
            # no reading of a ring is greater than one that begins with its greatest link, told without a sign
            reading = reading_from(mate, entry(link))
            found.append(reading)
            for told in reading:
                seen[abs(told)] = True
    return sorted(found)


def tidy_chains(lay):
    """The tidy chains of what is a lay."""
    lines = line_readings(lay)
    return tuple(lines), tuple(ring_readings(lay, lines))


def has_ring(lay):
    """Whether what is a lay has a ring."""
    return sum([len(reading) for reading in line_readings(lay)]) < lay[0]


def chains_of(lay):
    """The tidy chains of a lay; BadLay."""
    return tidy_chains(need_lay(lay))


def is_reading(value):
    """Whether a value is a tuple of 1 to 12 integers from -12 to 12, none of them 0."""
    if not isinstance(value, tuple) or not 1 <= len(value) <= MOST_LINKS:
        return False
    return all([is_from(told, -MOST_LINKS, MOST_LINKS) and told != 0 for told in value])


def links_told(chains):
    """A list of the links that chains tell, from 1 on, as they stand."""
    return [abs(told) for side in chains for reading in side for told in reading]


def need_chains(chains):
    """Chains themselves, tidy or not; BadChains."""
    if not is_pair(chains):
        raise BadChains(())
    for side in range(2):
        if not isinstance(chains[side], tuple):
            raise BadChains((side,))
    for side in range(2):
        for number, reading in enumerate(chains[side]):
            if not is_reading(reading):
                raise BadChains((side, number))
    told = links_told(chains)
    if not told or sorted(told) != list(range(1, len(told) + 1)):
        raise BadChains(())
    return chains


def lay_of(chains):
    """The lay that chains tell; BadChains."""
    lines, rings = need_chains(chains)
    joined = []
    for reading in lines:
        joined.extend(list(zip(reading, reading[1:])))
    for reading in rings:
        joined.extend(list(zip(reading, reading[1:] + reading[:1])))
    return made_lay(len(links_told(chains)), [(fellow(entry(told)), entry(after)) for told, after in joined])


def tidied(chains):
    """The tidy chains of the same lay; BadChains."""
    return tidy_chains(lay_of(chains))


def has_link(reading, link):
    """Whether a link stands in a reading."""
    return link + 1 in reading or -link - 1 in reading


def chain_with(lay, link):
    """The pair of "line" or "ring" and the greatest reading of that in which a link stands; BadLay, BadLink."""
    need_lay(lay)
    need_link(lay, link)
    lines, rings = tidy_chains(lay)
    for reading in lines:
        if has_link(reading, link):
            return "line", reading
    return "ring", [reading for reading in rings if has_link(reading, link)][0]


def chain_numbers(lay):
    """The numbers of lines and of rings of what is a lay."""
    lines, rings = tidy_chains(lay)
    return len(lines), len(rings)


def count_chains(lay):
    """The pair of the numbers of lines and rings; BadLay."""
    return chain_numbers(need_lay(lay))
