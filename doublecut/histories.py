"""Histories: steps one behind the other."""

from doublecut.errors import BadHistory
from doublecut.lays import need_lay, need_two
from doublecut.steps import is_step_of, joints_without, stepped, turned_step

MOST_STEPS = 60


def walked(lay, history):
    """A list of the lays at first and behind each step, from what is a lay; BadHistory."""
    if not isinstance(history, tuple) or len(history) > MOST_STEPS:
        raise BadHistory(None)
    lays = [lay]
    for number, step in enumerate(history):
        if not is_step_of(lays[-1], step):
            raise BadHistory(number)
        lays.append(stepped(lays[-1], step))
    return lays


def need_history(lay, history):
    """The history itself; BadLay, BadHistory."""
    walked(need_lay(lay), history)
    return history


def is_history(lay, value):
    """Whether any value is a history from the lay; BadLay."""
    need_lay(lay)
    try:
        walked(lay, value)
    except BadHistory:
        return False
    return True


def lays_along(lay, history):
    """The tuple of the lays at first and behind each step; BadLay, BadHistory."""
    return tuple(walked(need_lay(lay), history))


def last_lay(lay, history):
    """The lay behind all of the history; BadLay, BadHistory."""
    return walked(need_lay(lay), history)[-1]


def backwards(lay, history):
    """The history from the last lay back to the first one; BadLay, BadHistory."""
    need_history(lay, history)
    return tuple([turned_step(step) for step in history[::-1]])


def plain_history(one, other):
    """The plain history from one to other; BadLay, Unlike."""
    need_two(one, other)
    cutting = [((joint,), ()) for joint in joints_without(one, other)]
    making = [((), (joint,)) for joint in joints_without(other, one)]
    return tuple(cutting + making)


def first_again(lays):
    """The pair (I, J) of the first lay that was there ahead, and when it was; None if there is none."""
    ahead = {}
    for number, lay in enumerate(lays):
        if lay in ahead:
            return ahead[lay], number
        ahead[lay] = number
    return None


def comes_again(lay, history):
    """The pair (I, J) such that J is the least number behind which the lay is as behind I, or None."""
    return first_again(walked(need_lay(lay), history))


def shortened(lay, history):
    """The history shortened; BadLay, BadHistory."""
    lays = walked(need_lay(lay), history)
    left = history
    again = first_again(lays)
    while again is not None:
        start, end = again
        left = left[:start] + left[end:]
        lays = lays[:start] + lays[end:]
        again = first_again(lays)
    return left


def touched(lay, history):
    """The ascending tuple of the ends that stand in its steps; BadLay, BadHistory."""
    need_history(lay, history)
    return tuple(sorted({end for step in history for side in step for joint in side for end in joint}))
