"""A live lay: it is led by deeds, which can be taken back."""

from doublecut.checks import need_number
from doublecut.costs import cost_of, direct_history
from doublecut.errors import TooGreat
from doublecut.histories import MOST_STEPS
from doublecut.lays import need_end, need_lay, need_third
from doublecut.steps import need_step_of, stepped, turned_step
from doublecut.terms import step_of


class Kept:
    """How a live lay stood when a block began, and what is kept for the block around this one."""

    def __init__(self, here, steps, outer):
        self.here = here
        self.steps = steps
        self.outer = outer


class Trial:
    """A manager: when its block ends, the live lay is as it was when the block began."""

    def __init__(self, held):
        self._held = held
        self._kept = None

    def __enter__(self):
        self._kept = Kept(self._held._here, self._held._steps, self._kept)
        return self._held

    def __exit__(self, kind, value, trace):
        self._held._here = self._kept.here
        self._held._steps = self._kept.steps
        self._kept = self._kept.outer


class Live:
    """A lay with the steps that were done from the first one on, and not taken back; BadLay."""

    def __init__(self, lay):
        self._first = need_lay(lay)
        self._here = lay
        self._steps = ()

    @property
    def lay(self):
        """The lay as it is now."""
        return self._here

    @property
    def first(self):
        """The lay as it was at first."""
        return self._first

    @property
    def history(self):
        """The tuple of the steps that were done and not taken back."""
        return self._steps

    def _need_room(self, many):
        """Nothing, where so many deeds more can be done; TooGreat."""
        if len(self._steps) + many > MOST_STEPS:
            raise TooGreat(MOST_STEPS)

    def _do(self, step):
        """The step, which is done by this; TooGreat."""
        self._need_room(1)
        self._here = stepped(self._here, step)
        self._steps = (*self._steps, step)
        return step

    def cross(self, one, other):
        """The step of the DEED ("cross", one, other), which is done; BadEnd, BadStep, TooGreat."""
        need_end(self._here, one)
        need_end(self._here, other)
        return self._do(step_of(self._here, ("cross", one, other)))

    def cut(self, one):
        """The step of the DEED ("cut", one), which is done; BadEnd, BadStep, TooGreat."""
        need_end(self._here, one)
        return self._do(step_of(self._here, ("cut", one)))

    def go(self, step):
        """The lay behind a step, which is done; BadStep, TooGreat."""
        self._do(need_step_of(self._here, step))
        return self._here

    def lead(self, goal):
        """How many deeds it was led by, along a least history to a lay; BadLay, Unlike, TooGreat."""
        need_third(self._here, goal)
        history = direct_history(self._here, goal)
        self._need_room(len(history))
        for step in history:
            self._do(step)
        return len(history)

    def away(self, goal):
        """The least number of steps to a lay; BadLay, Unlike."""
        return cost_of(self._here, need_third(self._here, goal))

    def undo(self, many=1):
        """Takes back so many deeds, the last one first; BadNumber."""
        for _ in range(need_number(many, 1, len(self._steps))):
            self._here = stepped(self._here, turned_step(self._steps[-1]))
            self._steps = self._steps[:-1]

    def copy(self):
        """Another Live that stands as this one."""
        other = Live(self._first)
        other._here = self._here
        other._steps = self._steps
        return other

    def trial(self):
        """A manager whose block gets this Live, which is as it was when the block ends."""
        return Trial(self)

    def __len__(self):
        return len(self._steps)

    def __eq__(self, other):
        return isinstance(other, Live) and self._first == other._first and self._steps == other._steps


def under(manager, deed):
    """What deed returns of that which a manager gives to a block, called in this block."""
    with manager as one:
        return deed(one)
