"""What several tests use: a plain model of lays, wrong values of every kind, and how calls end."""

import random
from functools import lru_cache
from itertools import product

ODD_VALUES = [
    None, True, False, 0, 1, -1, 2, 13, 61, 10 ** 999, -10 ** 999, "", "0", "ring", "within", b"", b"\x00", b"ring",
    [], [0], [()], (), (0,), (0, 1), ((), ()), ([], []), ((0, 1),), {}, {0: 1},
]

WRONG_LAYS = [
    (None, ()), (True, ()), (5, ()), ("", ()), ("ab", ()), (b"ab", ()), ([1, ()], ()), ((), ()), ((1,), ()),
    ((1, (), ()), ()), ({1: ()}, ()), (10 ** 999, ()), ([(1, ())], ()), (((1, ()),), ()),
    ((0, ()), (0,)), ((13, ()), (0,)), ((-1, ()), (0,)), ((True, ()), (0,)), ((None, ()), (0,)), (("1", ()), (0,)),
    ((b"1", ()), (0,)), (((1,), ()), (0,)), ((10 ** 999, ()), (0,)), (([1], ()), (0,)), ((False, None), (0,)),
    ((0, 5), (0,)), ((), ()),
    ((1, []), (1,)), ((1, None), (1,)), ((1, [(0, 1)]), (1,)), ((1, "ab"), (1,)), ((1, b""), (1,)), ((1, 0), (1,)),
    ((1, True), (1,)), ((12, {}), (1,)),
    ((1, ((0, 2),)), (1, 0)), ((1, ((1, 0),)), (1, 0)), ((1, ((0, 0),)), (1, 0)), ((1, ([0, 1],)), (1, 0)),
    ((1, ((False, True),)), (1, 0)), ((1, ((0, True),)), (1, 0)), ((1, ((False, 1),)), (1, 0)), ((1, (None,)), (1, 0)),
    ((1, ("01",)), (1, 0)), ((1, (b"01",)), (1, 0)), ((1, ((0, 1, 2),)), (1, 0)), ((1, ((0,),)), (1, 0)),
    ((1, ((0, "1"),)), (1, 0)), ((1, ((None, 1),)), (1, 0)), ((1, ((-1, 0),)), (1, 0)),
    ((1, ((0, 10 ** 999),)), (1, 0)), ((1, ((),)), (1, 0)), ((1, (0, 1)), (1, 0)), ((1, (((0, 1),),)), (1, 0)),
    ((1, (((0,), 1),)), (1, 0)), ((12, ((0, 24),)), (1, 0)),
    ((2, ((0, 1), (0, 1))), (1, 1)), ((2, ((2, 3), (0, 1))), (1, 1)), ((2, ((0, 1), (1, 2))), (1, 1)),
    ((2, ((0, 2), (1, 3), (4, 5))), (1, 2)), ((3, ((0, 5), (1, 2), (3, 5))), (1, 2)), ((2, ((0, 1), [2, 3])), (1, 1)),
    ((2, ((0, 3), (1, 4))), (1, 1)), ((2, ((0, 3), (0, 2))), (1, 1)), ((2, ((0, 3), (0, 4), None)), (1, 1)),
    ((3, ((0, 1), (2, 3), (4, True))), (1, 2)), ((3, ((0, 1), (3, 2), None)), (1, 1)),
]


def tells(call, *told, **named):
    """How a call ends: with a value, or with an exception and its fields."""
    try:
        return "value", call(*told, **named)
    except Exception as error:
        return error.__class__.__name__, vars(error)


def strict(value):
    """A text that tells 1 from True, tuples from lists, and so on."""
    return repr(value)


def model_joints(ends):
    """All ways to pair some of the ends, in no order: the last one is left alone, or paired."""
    if not ends:
        return [()]
    *others, last = ends
    found = list(model_joints(others))
    for at, mate in enumerate(others):
        found.extend(joints + ((mate, last),) for joints in model_joints(others[:at] + others[at + 1:]))
    return found


def model_lays(links):
    """All lays of so many links, ascending."""
    return sorted((links, tuple(sorted(joints))) for joints in model_joints(list(range(2 * links))))


def model_step(one, other):
    """The step of one behind which it is other, or None: read off the words of the document."""
    cut = tuple(joint for joint in one[1] if joint not in other[1])
    made = tuple(joint for joint in other[1] if joint not in one[1])
    cut_ends = sorted(end for joint in cut for end in joint)
    made_ends = sorted(end for joint in made for end in joint)
    if (len(cut), len(made)) == (2, 2):
        return (cut, made) if cut_ends == made_ends else None
    if (len(cut), len(made)) == (1, 1):
        return (cut, made) if len(set(cut_ends) & set(made_ends)) == 1 else None
    return (cut, made) if (len(cut), len(made)) in ((1, 0), (0, 1)) else None


def model_steps(lay, lays):
    """All steps of a lay, ascending, with the lays behind them."""
    found = []
    for other in lays:
        step = model_step(lay, other)
        if step is not None:
            found.append((step, other))
    return sorted(found)


def distances(lay, behind):
    """A dict of the least number of steps from a lay to each that can be reached; behind(lay) lists the next ones."""
    away = {lay: 0}
    edge = [lay]
    while edge:
        further = []
        for here in edge:
            for met in behind(here):
                if met not in away:
                    away[met] = away[here] + 1
                    further.append(met)
        edge = further
    return away


@lru_cache(None)
def model_behind(lay):
    """All steps of a lay of few links, ascending, with the lays behind them; kept."""
    return model_steps(lay, model_kept_lays(lay[0]))


@lru_cache(None)
def model_kept_lays(links):
    return model_lays(links)


@lru_cache(None)
def model_away(lay):
    """A dict of the least number of steps between a lay of few links and each other one; kept."""
    return distances(lay, lambda here: [met for _, met in model_behind(here)])


def model_least(one, other):
    """All least histories from one to other, ascending, by a plain search over all steps."""
    away = model_away(other)
    if one == other:
        return [()]
    return [
        (step, *behind) for step, met in model_behind(one) if away[met] == away[one] - 1
        for behind in model_least(met, other)
    ]


def model_between(one, other):
    """All lays that are just as far away from one and other together as they are from one another."""
    ahead, behind = model_away(one), model_away(other)
    return [lay for lay in model_kept_lays(one[0]) if ahead[lay] + behind[lay] == ahead[other]]


def lay_of_lines(lines):
    """The lay of lines, each a tuple of its links told from 1 on, below 0 if they are come to by the far end."""
    joints = []
    for line in lines:
        for told, after in zip(line, line[1:]):
            leaving = 2 * told - 1 if told > 0 else -2 * told - 2
            coming = 2 * after - 2 if after > 0 else -2 * after - 1
            joints.append(tuple(sorted((leaving, coming))))
    return sum(len(line) for line in lines), tuple(sorted(joints))


def some_lines(links, many, draw):
    """The lay of so many links in so many lines at most, drawn by a Random."""
    order = [link * draw.choice((1, -1)) for link in draw.sample(range(1, links + 1), links)]
    cuts = sorted(draw.sample(range(1, links), min(many - 1, links - 1)))
    return lay_of_lines([tuple(order[at:end]) for at, end in zip([0] + cuts, cuts + [links])])


def some_lay(links, joints, seed):
    """A lay of so many links and joints, drawn by a seed."""
    ends = list(range(2 * links))
    random.Random(seed).shuffle(ends)
    pairs = [tuple(sorted(ends[2 * at:2 * at + 2])) for at in range(joints)]
    return links, tuple(sorted(pairs))


def some_pairs(links, many, seed):
    """So many pairs of lays of so many links, drawn by a seed."""
    draw = random.Random(seed)
    return [
        (some_lay(links, draw.randint(0, links), draw.random()), some_lay(links, draw.randint(0, links), draw.random()))
        for _ in range(many)
    ]


def spoiled(value):
    """The value with something otherwise at one place, at any depth."""
    yield from ODD_VALUES
    if isinstance(value, bool):
        return
    if isinstance(value, int):
        yield from (value + 1, value - 1, str(value), value == 1, [value], (value,))
    if isinstance(value, str):
        yield from (value + "s", value.encode(), value.upper(), [value])
    if isinstance(value, tuple):
        yield list(value)
        yield value + (None,)
        yield value + value
        yield value[::-1]
        for at, part in enumerate(value):
            yield value[:at] + value[at + 1:]
            for other in spoiled(part):
                yield value[:at] + (other,) + value[at + 1:]


def truth_values(value):
    """The value with True and False in the place of some of its integers 1 and 0, each way to do so but none."""
    if isinstance(value, int) and value in (0, 1):
        return [value, bool(value)]
    if isinstance(value, tuple):
        return [tuple(parts) for parts in product(*[truth_values(part) for part in value])]
    return [value]


def model_lots(ends):
    """All LOTS with at most so many ends."""
    known = sorted(
        [(kind, size) for kind in ("open", "ring", "shut") for size in range(2, ends + 1, 2)]
        + [("odd", size) for size in range(1, ends + 1, 2)]
    )

    def begun(left, at):
        yield ()
        for place in range(at, len(known)):
            if known[place][1] <= left:
                for behind in begun(left - known[place][1], place):
                    yield (known[place], *behind)

    return [lot for lot in begun(ends, 0) if lot and sum(size for _, size in lot) % 2 == 0]
