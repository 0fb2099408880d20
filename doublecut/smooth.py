"""Smooth histories: each ring that comes is gone behind the next step."""

from doublecut.chains import has_ring
from doublecut.errors import BadLay
from doublecut.good import good_of
from doublecut.lays import need_lay, need_two
from doublecut.steps import is_step_of, stepped


def need_lines(lay):
    """What is a lay itself; BadLay of one with a ring."""
    if has_ring(lay):
        raise BadLay((1,))
    return lay


def smooth_on(here, other):
    """A list of one good step from a lay without rings to another such lay, or of two if there is no such one."""
    found = good_of(here, other)
    for step in found:
        if not has_ring(stepped(here, step)):
            return [step]
    for step in found:
        met = stepped(here, step)
        for after in good_of(met, other):
            if not has_ring(stepped(met, after)):
                return [step, after]


def smooth_history(one, other):
    """A smooth least history; BadLay, Unlike, then BadLay of a lay with a ring."""
    need_two(one, other)
    need_lines(one)
    need_lines(other)
    here = one
    history = []
    # from each lay without rings a smooth least history leads on, so nothing that was done is ever taken back
    while here != other:
        for step in smooth_on(here, other):
            history.append(step)
            here = stepped(here, step)
    return tuple(history)


def is_smooth(one, value):
    """Whether any value is a tuple of smooth steps from one, however many; BadLay."""
    need_lines(need_lay(one))
    if not isinstance(value, tuple):
        return False
    here = one
    ringed = False
    for step in value:
        if not is_step_of(here, step):
            return False
        here = stepped(here, step)
        ringed_ahead, ringed = ringed, has_ring(here)
        if ringed_ahead and ringed:
            return False
    return not ringed
