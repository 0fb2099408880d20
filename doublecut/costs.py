"""Costs: the least numbers of steps, and papers on them."""

from doublecut.checks import is_from, is_pair, need_number
from doublecut.errors import BadHistory, BadPaper
from doublecut.histories import MOST_STEPS, walked
from doublecut.lays import joint_of, mates, need_alike, need_lay, need_two
from doublecut.steps import joints_without, stepped
from doublecut.webs import piece_cost, sizes_of, web_of


def cost_of(one, other):
    """What the web of what are two lays costs."""
    return sum([piece_cost(kind, size) for kind, size in sizes_of(one, other)])


def least_steps(one, other):
    """The least number of steps from one to other; BadLay, Unlike."""
    need_two(one, other)
    return cost_of(one, other)


def stands_between(one, third, other):
    """Whether the lay third is between the two others, of what are lays of as many links."""
    return cost_of(one, third) + cost_of(third, other) == cost_of(one, other)


def is_between(one, third, other):
    """Whether the lay third is between the two others; BadLay, Unlike."""
    lays = [need_lay(one), need_lay(third), need_lay(other)]
    need_alike(lays)
    return stands_between(one, third, other)


def making_step(lay, joint):
    """The step of a lay that makes a joint it has not, and joins what was joined to both its ends."""
    mate = mates(lay)
    left = [mate[end] for end in joint if mate[end] is not None]
    cut = sorted([joint_of(end, mate[end]) for end in joint if mate[end] is not None])
    made = [joint]
    if len(left) == 2:
        made.append(joint_of(left[0], left[1]))
    return tuple(cut), tuple(sorted(made))


def direct_history(one, other):
    """A history of least steps: it makes each joint of other, and then cuts what is left over."""
    here = one
    history = []
    for joint in other[1]:
        if joint not in here[1]:
            history.append(making_step(here, joint))
            here = stepped(here, history[-1])
    return tuple(history + [((joint,), ()) for joint in joints_without(here, other)])


def within_paper(one, other, most):
    """A paper on whether so many steps are enough; BadLay, Unlike, BadNumber."""
    need_two(one, other)
    need_number(most, 0, MOST_STEPS)
    if cost_of(one, other) <= most:
        return "within", direct_history(one, other)
    return "beyond", tuple([row for _, row in web_of(one, other)])


def leads_within(one, other, most, history):
    """Whether any value is a history of at most so many steps that leads from one to other."""
    try:
        lays = walked(one, history)
    except BadHistory:
        return False
    return len(lays) - 1 <= most and lays[-1] == other


def ways_round(kind, row):
    """A list of the rows of the piece that has this one."""
    turned = [row, row[::-1]]
    if kind != "ring":
        return turned
    return [way[at:] + way[:at] for way in turned for at in range(len(row))]


def are_all_rows(one, other, told):
    """Whether any value is a tuple of a row for each piece of the web of two lays."""
    if not isinstance(told, tuple):
        return False
    web = web_of(one, other)
    row_with = {end: number for number, (_, row) in enumerate(web) for end in row}
    used = [False] * len(web)
    for row in told:
        if not isinstance(row, tuple) or row == () or not all([is_from(end, 0, 2 * one[0] - 1) for end in row]):
            return False
        number = row_with[row[0]]
        kind, known = web[number]
        if used[number] or row not in ways_round(kind, known):
            return False
        used[number] = True
    return all(used)


def check_within(one, other, most, paper):
    """The word of a paper on whether so many steps are enough; BadLay, Unlike, BadNumber, BadPaper."""
    need_two(one, other)
    need_number(most, 0, MOST_STEPS)
    if not is_pair(paper) or paper[0] not in ("within", "beyond"):
        raise BadPaper("form")
    word, told = paper
    if word == "within":
        if not leads_within(one, other, most, told):
            raise BadPaper("within")
        return "within"
    if not are_all_rows(one, other, told) or cost_of(one, other) <= most:
        raise BadPaper("beyond")
    return "beyond"
