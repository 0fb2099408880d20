"""Steps: at most two joints cut, and the ends joined anew."""

from doublecut.chains import chain_numbers
from doublecut.checks import are_joints, is_pair
from doublecut.errors import BadStep
from doublecut.lays import free_of, joint_of, need_lay, need_two


def pairings(one, other):
    """The two other ways to pair the ends of two joints, the lesser one first, each an ascending tuple of joints."""
    low, high = one
    left, right = other
    # low is the least of the four ends, so its joint is the first one
    return [((low, left), joint_of(high, right)), ((low, right), joint_of(high, left))]


def doubles(joints):
    """A list of the steps that cut two of the joints and make two others."""
    found = []
    for at, one in enumerate(joints):
        for other in joints[at + 1:]:
            for made in pairings(one, other):
                found.append(((one, other), made))
    return found


def shifts(joints, free):
    """A list of the steps that cut one of the joints and join one of its ends to a free one."""
    return [((joint,), (joint_of(kept, end),)) for joint in joints for kept in joint for end in free]


def joins(free):
    """A list of the steps that join two free ends."""
    return [((), ((low, high),)) for at, low in enumerate(free) for high in free[at + 1:]]


def cuts(joints):
    """A list of the steps that cut one of the joints and make none."""
    return [((joint,), ()) for joint in joints]


def steps_of(lay):
    """A list of all steps of what is a lay, ascending."""
    joints = lay[1]
    free = free_of(lay)
    return sorted(doubles(joints) + shifts(joints, free) + cuts(joints) + joins(free))


def all_steps(lay):
    """The ascending tuple of all steps; BadLay."""
    return tuple(steps_of(need_lay(lay)))


def word_of(lay, cut, made):
    """The word of a step that cuts these joints and makes those, or None if that is no step of the lay."""
    if any([joint not in lay[1] for joint in cut]):
        return None
    free = free_of(lay)
    if len(cut) == 2 and made in pairings(cut[0], cut[1]):
        return "double"
    if len(cut) == 1 and made == ():
        return "cut"
    if len(made) != 1 or len(cut) > 1:
        return None
    count = len([end for end in made[0] if end in free])
    if cut == ():
        return "join" if count == 2 else None
    kept = [end for end in made[0] if end in cut[0]]
    return "shift" if count == 1 and len(kept) == 1 else None


def is_step_of(lay, value):
    """Whether any value is a step of what is a lay."""
    if not is_pair(value):
        return False
    cut, made = value
    if not are_joints(cut, lay[0]) or not are_joints(made, lay[0]):
        return False
    return word_of(lay, cut, made) is not None


def is_step(lay, value):
    """Whether any value is a step of the lay; BadLay."""
    return is_step_of(need_lay(lay), value)


def need_step_of(lay, step):
    """A step of what is a lay itself; BadStep."""
    if not is_step_of(lay, step):
        raise BadStep(step)
    return step


def need_step(lay, step):
    """The step itself; BadLay, BadStep."""
    return need_step_of(need_lay(lay), step)


def stepped(lay, step):
    """The lay behind what is a step of it."""
    cut, made = step
    left = [joint for joint in lay[1] if joint not in cut]
    return lay[0], tuple(sorted(left + list(made)))


def turned_step(step):
    """The step that leads back."""
    cut, made = step
    return made, cut


def lay_behind(lay, step):
    """The lay behind the step; BadLay, BadStep."""
    need_step(lay, step)
    return stepped(lay, step)


def step_back(lay, step):
    """The step of the lay behind the step that leads back; BadLay, BadStep."""
    return turned_step(need_step(lay, step))


def joints_without(one, other):
    """The ascending tuple of the joints that the one lay has and the other one has not."""
    return tuple([joint for joint in one[1] if joint not in other[1]])


def step_between(one, other):
    """The step of one behind which it is other, or None; BadLay, Unlike."""
    need_two(one, other)
    step = joints_without(one, other), joints_without(other, one)
    return step if is_step_of(one, step) else None


def sort_of(lay, step):
    """The word of the step, "double", "shift", "cut" or "join"; BadLay, BadStep."""
    cut, made = need_step(lay, step)
    return word_of(lay, cut, made)


def change_of(lay, step):
    """The pair of how many lines and rings more there are behind the step; BadLay, BadStep."""
    lines, rings = chain_numbers(lay_behind(lay, step))
    lines_ahead, rings_ahead = chain_numbers(lay)
    return lines - lines_ahead, rings - rings_ahead
