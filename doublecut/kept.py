"""Kept lots: links that stand beside one another in each of several lays."""

from doublecut.lays import need_link
from doublecut.stretches import first_place, listed_stretches, need_lines_alone, places_in


def kept_in(several):
    """A list of all kept lots of what are several lays of lines alone, ascending."""
    others = [places_in(lay) for lay in several[1:]]
    found = listed_stretches(several[0])
    return [lot for lot in found if all([first_place(places, lot) is not None for places in others])]


def is_within(one, other):
    """Whether all links of a lot are in another one."""
    return all([link in other for link in one])


def overlap(one, other):
    """Whether two lots have a link in common, and each one has one that is not in the other one."""
    common = [link for link in one if link in other]
    return 0 < len(common) < min(len(one), len(other))


def strong_in(kept):
    """A list of those lots that overlap none of all."""
    return [lot for lot in kept if not any([overlap(lot, other) for other in kept])]


def greatest_in(lots):
    """A list of those lots that are within no other one of all."""
    return [lot for lot in lots if not any([lot != other and is_within(lot, other) for other in lots])]


def kept_lots(several):
    """The ascending tuple of all kept lots; BadSeveral, Unlike."""
    return tuple(kept_in(need_lines_alone(several)))


def strong_lots(several):
    """The ascending tuple of all strong lots; BadSeveral, Unlike."""
    return tuple(strong_in(kept_in(need_lines_alone(several))))


def greatest_lots(several):
    """The ascending tuple of the kept lots that are within no other one; BadSeveral, Unlike."""
    return tuple(greatest_in(kept_in(need_lines_alone(several))))


def many_kept(several):
    """How many lots are kept; BadSeveral, Unlike."""
    return len(kept_in(need_lines_alone(several)))


def shared_joints(several):
    """The ascending tuple of the joints that all lays have; BadSeveral, Unlike."""
    need_lines_alone(several)
    return tuple([joint for joint in several[0][1] if all([joint in lay[1] for lay in several])])


def least_lot(several, one, other):
    """The kept lot with both links and the fewest ones, or None; BadSeveral, Unlike, BadLink."""
    need_lines_alone(several)
    both = [need_link(several[0], one), need_link(several[0], other)]
    found = sorted([(len(lot), lot) for lot in kept_in(several) if is_within(both, lot)])
    return found[0][1] if found else None
