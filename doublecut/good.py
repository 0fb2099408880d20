"""Good steps: those behind which another lay is nearer."""

from doublecut.costs import cost_of
from doublecut.lays import need_two
from doublecut.steps import need_step_of, steps_of, stepped
from doublecut.webs import web_of


def change_by(one, other, step):
    """What a step of one changes the cost by, of what are two lays."""
    return cost_of(stepped(one, step), other) - cost_of(one, other)


def good_of(one, other):
    """A list of all good steps, ascending, of what are two lays."""
    wanted = cost_of(one, other) - 1
    return [step for step in steps_of(one) if cost_of(stepped(one, step), other) == wanted]


def change(one, other, step):
    """What the cost is behind the step, less what it is ahead; BadLay, Unlike, BadStep."""
    need_two(one, other)
    return change_by(one, other, need_step_of(one, step))


def is_good(one, other, step):
    """Whether the step is good; BadLay, Unlike, BadStep."""
    return change(one, other, step) == -1


def good_steps(one, other):
    """The ascending tuple of all good steps; BadLay, Unlike."""
    need_two(one, other)
    return tuple(good_of(one, other))


def first_good(one, other):
    """The least good step, or None; BadLay, Unlike."""
    found = good_steps(one, other)
    return found[0] if found else None


def is_in_row(step, row):
    """Whether all ends of the joints of a step stand in a row."""
    return all([end in row for side in step for joint in side for end in joint])


def good_counts(one, other):
    """The pair of how many good steps are within a piece, and how many are not; BadLay, Unlike."""
    found = good_steps(one, other)
    known = [row for _, row in web_of(one, other)]
    inside = [step for step in found if any([is_in_row(step, row) for row in known])]
    return len(inside), len(found) - len(inside)


def sorts(one, other):
    """How many steps make the cost one less, leave it, make it one more; BadLay, Unlike."""
    need_two(one, other)
    here = cost_of(one, other)
    changes = [cost_of(stepped(one, step), other) - here for step in steps_of(one)]
    return changes.count(-1), changes.count(0), changes.count(1)
