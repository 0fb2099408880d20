"""LOGS: what is seen, of some links alone, of a lay and of those behind its steps."""

from math import comb

from doublecut.checks import are_joints, is_from, is_pair, need_links, need_number
from doublecut.counted import listed_lays, pairing_counts
from doublecut.errors import BadHistory, BadLink, BadLog
from doublecut.histories import walked
from doublecut.lays import need_lay
from doublecut.steps import steps_of, stepped

MOST_LOGGED = 3
MOST_ROWS = 8


def is_watched(value, links):
    """Whether any value is WATCHED, of so many links."""
    if not isinstance(value, tuple) or not all([is_from(link, 0, links - 1) for link in value]):
        return False
    return all([link < after for link, after in zip(value, value[1:])])


def need_watched(watched, links):
    """WATCHED of so many links themselves; BadLink."""
    if not is_watched(watched, links):
        raise BadLink(watched)
    return watched


def is_of(joint, watched):
    """Whether both ends of a joint are those of some links."""
    low, high = joint
    return low // 2 in watched and high // 2 in watched


def is_row(value, links, watched):
    """Whether any value is what can be SEEN of WATCHED, of so many links."""
    return are_joints(value, links) and all([is_of(joint, watched) for joint in value])


def need_log(log, links):
    """A LOG for so many links itself; BadLog."""
    if not is_pair(log) or not is_watched(log[0], links):
        raise BadLog(None)
    watched, rows = log
    if not isinstance(rows, tuple) or not 1 <= len(rows) <= MOST_ROWS:
        raise BadLog(None)
    for number, row in enumerate(rows):
        if not is_row(row, links, watched):
            raise BadLog(number)
    return log


def seen_of(lay, watched):
    """What is SEEN of what is a lay."""
    return tuple([joint for joint in lay[1] if is_of(joint, watched)])


def seen(lay, links):
    """What is SEEN of a lay, its WATCHED links told; BadLay, BadLink."""
    need_lay(lay)
    return seen_of(lay, need_watched(links, lay[0]))


def rows_of_unlike(things, many):
    """How many rows of so many unlike ones there are of things."""
    count = 1
    for taken in range(many):
        count = count * (things - taken)
    return count


def many_showing(count, links, joints):
    """How many lays of count links show just these joints of WATCHED links; BadNumber, BadLink, BadLog."""
    need_links(count)
    need_watched(links, count)
    if not is_row(joints, count, links):
        raise BadLog(0)
    left = 2 * len(links) - 2 * len(joints)
    others = 2 * count - 2 * len(links)
    ways = pairing_counts(others)
    # so many of the WATCHED ends that are left are joined to unlike ends of other links, all others are free
    return sum([
        comb(left, across) * rows_of_unlike(others, across) * ways[others - across]
        for across in range(min(left, others) + 1)
    ])


def need_menu(lay, menu):
    """A list of the lists of the lays along each history of a menu; BadHistory."""
    if not isinstance(menu, tuple) or not 1 <= len(menu) <= MOST_ROWS:
        raise BadHistory(None)
    found = []
    for number, history in enumerate(menu):
        try:
            found.append(walked(lay, history))
        except BadHistory:
            raise BadHistory(number)
    return found


def fitting_rows(lay, menu, log):
    """The ascending tuple of the numbers of the histories of a menu that show the LOG; BadLay, BadHistory, BadLog."""
    need_lay(lay)
    along = need_menu(lay, menu)
    watched, rows = need_log(log, lay[0])
    shown = [tuple([seen_of(met, watched) for met in lays]) for lays in along]
    return tuple([number for number, told in enumerate(shown) if told == rows])


def levels_shown(many, watched, rows):
    """A list: for each row the lays behind all histories that show the rows up to it, of so many links, ascending."""
    levels = []
    reached = listed_lays(many)
    for row in rows:
        shown = [lay for lay in reached if seen_of(lay, watched) == row]
        levels.append(shown)
        reached = sorted({stepped(lay, step) for lay in shown for step in steps_of(lay)})
    return levels


def need_logged(many, log):
    """The LOG for so few links itself; BadNumber, BadLog."""
    return need_log(log, need_number(many, 1, MOST_LOGGED))


def first_lays(many, log):
    """The ascending tuple of the lays of which some history shows the LOG; BadNumber, BadLog."""
    watched, rows = need_logged(many, log)
    # each step has one that leads back, so these are the last lays of what shows all the other way round
    return tuple(levels_shown(many, watched, rows[::-1])[-1])


def last_lays(many, log):
    """The ascending tuple of the lays behind the histories that show the LOG; BadNumber, BadLog."""
    watched, rows = need_logged(many, log)
    return tuple(levels_shown(many, watched, rows)[-1])


def first_false(many, log):
    """The number of the first row such that no history shows those up to it, or None; BadNumber, BadLog."""
    watched, rows = need_logged(many, log)
    for number, shown in enumerate(levels_shown(many, watched, rows)):
        if not shown:
            return number
    return None
