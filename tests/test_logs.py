"""doublecut.logs, [61] and [62]."""

import random
import unittest
from itertools import combinations

from doublecut.logs import fitting_rows, first_false, first_lays, last_lays, many_showing, seen

from tests.helpers import (
    ODD_VALUES, WRONG_LAYS, model_behind, model_kept_lays, some_lay, spoiled, strict, tells, truth_values,
)

DRAW = random.Random(61)
LAY = (3, ((0, 1), (2, 5)))
SUBSETS = {
    links: [lot for many in range(links + 1) for lot in combinations(range(links), many)] for links in (1, 2, 3)
}


def seen_by_words(lay, watched):
    return tuple(joint for joint in lay[1] if {joint[0] // 2, joint[1] // 2} <= set(watched))


def walk(lay, many):
    """A drawn history of so many steps, with the lays along it."""
    history, lays = [], [lay]
    for _ in range(many):
        step, met = DRAW.choice(model_behind(lays[-1]))
        history.append(step)
        lays.append(met)
    return tuple(history), lays


def drawn_log(links, rows, watched):
    """A LOG: what is seen along a drawn history, or, now and then, something else in one row."""
    _, lays = walk(DRAW.choice(model_kept_lays(links)), rows - 1)
    told = [seen_by_words(lay, watched) for lay in lays]
    for _ in range(DRAW.choice((0, 0, 1, 2, 3))):
        told[DRAW.randrange(rows)] = seen_by_words(DRAW.choice(model_kept_lays(links)), watched)
    return watched, tuple(told)


SOME = [
    (links, drawn_log(links, rows, watched)) for links in (1, 2, 3) for watched in SUBSETS[links]
    for rows in (1, 2, 3, 4, 6, 8) for _ in range(2)
]


def ends_by_words(links, log):
    """The lists of the first lays and of the last lays, and how many rows can be shown, by following each lay."""
    watched, rows = log
    reach = {lay: {lay} for lay in model_kept_lays(links) if seen_by_words(lay, watched) == rows[0]}
    shown = int(bool(reach))
    for row in rows[1:]:
        reach = {
            first: {met for here in reached for _, met in model_behind(here) if seen_by_words(met, watched) == row}
            for first, reached in reach.items()
        }
        reach = {first: reached for first, reached in reach.items() if reached}
        shown += bool(reach)
    return tuple(sorted(reach)), tuple(sorted(set().union(*reach.values()))), shown


def is_whole(value, least, most):
    return isinstance(value, int) and not isinstance(value, bool) and least <= value <= most


def is_watched(value, links):
    return isinstance(value, tuple) and all(is_whole(link, 0, links - 1) for link in value) and (
        list(value) == sorted(set(value))
    )


def is_row(value, watched):
    if not isinstance(value, tuple):
        return False
    known = [2 * link + side for link in watched for side in (0, 1)]
    joints = {strict(joint) for joint in combinations(known, 2)}
    if not all(strict(joint) in joints for joint in value) or list(value) != sorted(set(value)):
        return False
    ends = [end for joint in value for end in joint]
    return len(set(ends)) == len(ends)


def log_fault(value, links):
    """The pair of whether a value is no LOG, and of the place."""
    if not isinstance(value, tuple) or len(value) != 2 or not is_watched(value[0], links):
        return True, None
    watched, rows = value
    if not isinstance(rows, tuple) or not 1 <= len(rows) <= 8:
        return True, None
    for number, row in enumerate(rows):
        if not is_row(row, watched):
            return True, number
    return False, None


WRONG_LOGS = [
    (((0,), ()), None), (((0,), ((),) * 9), None), ((((0,)), [()]), None), (([0], ((),)), None), (((0,),), None),
    (((0,), ((),), ()), None), (((3,), ((),)), None), (((0, 0), ((),)), None), (((1, 0), ((),)), None),
    ((None, ((),)), None), (((True,), ((),)), None), (((0, None), ((),)), None), (((-1,), ((),)), None),
    ((0, ((),)), None), ((((0,),), ((),)), None),
    (((0,), None), None), (((0,), "ab"), None), (((0,), {0: ()}), None), (((0,), 5), None), (("", ((),)), None),
    (((10 ** 999,), ((),)), None), (((3,), (None,)), None), (((0,), ((),) * 8 + (None,)), None),
    (((0,), (None,)), 0), (((0,), ([],)), 0), (((0,), (((0, 2),),)), 0), (((0,), (((1, 0),),)), 0),
    (((0,), (((0, 0),),)), 0), (((0,), (([0, 1],),)), 0), (((0,), (((False, 1),),)), 0), (((0,), (((0, True),),)), 0),
    (((0,), ((0, 1),)), 0), (((), (((0, 1),),)), 0), (((1,), (((0, 1),),)), 0), (((0,), (((0, 1, 2),),)), 0),
    (((0,), (((0,),),)), 0), (((0,), (((0, 1), (0, 1)),)), 0), (((0,), ("",)), 0), (((0,), (b"",)), 0),
    (((0,), ((), ((0, 1),), ((1, 2),))), 2), (((0, 2), ((), ((2, 3),))), 1), (((0, 2), (((4, 5), (0, 1)),)), 0),
    (((0, 2), (((0, 4), (1, 4)),)), 0), (((0, 2), (((0, 4), (4, 5)),)), 0), (((0, 2), ((),) * 7 + (((0, 6),),)), 7),
    (((0, 2), (((0, 4), (1, 5)), ((0, 4), (1, 5), (2, 3)))), 1),
]


class Seen(unittest.TestCase):
    def test_by_words(self):
        for links in (1, 2, 3):
            for lay in model_kept_lays(links):
                for watched in SUBSETS[links]:
                    self.assertEqual(strict(seen(lay, watched)), strict(seen_by_words(lay, watched)))
        lay = some_lay(12, 11, 2)
        for watched in ((), (0,), tuple(range(12)), tuple(range(0, 12, 2)), (3, 4, 5, 11)):
            self.assertEqual(strict(seen(lay, watched)), strict(seen_by_words(lay, watched)))

    def test_refused(self):
        for wrong, place in WRONG_LAYS:
            self.assertEqual(tells(seen, wrong, None), ("BadLay", {"place": place}))
        more = [[0], (0, 0), (1, 0), (0, 3), (-1,), (0, True), (False,), ("0",), (0, None), {0: 1}, "", b"", 0]
        more.append((0, (1,)))
        for value in ODD_VALUES + more:
            if is_watched(value, 3):
                self.assertEqual(seen(LAY, value), seen_by_words(LAY, value))
            else:
                self.assertEqual(strict(tells(seen, LAY, value)), strict(("BadLink", {"value": value})))


class Showing(unittest.TestCase):
    def test_by_going_through_all_lays(self):
        for links in (1, 2, 3):
            for watched in SUBSETS[links]:
                counts = {}
                for lay in model_kept_lays(links):
                    joints = seen_by_words(lay, watched)
                    counts[joints] = counts.get(joints, 0) + 1
                for joints, count in counts.items():
                    self.assertEqual(strict(many_showing(links, watched, joints)), strict(count))

    def test_four_links_and_twelve(self):
        for watched in ((), (0,), (1, 3), (0, 1, 2), (0, 1, 2, 3)):
            for seed in range(5):
                joints = seen_by_words(some_lay(4, 3, seed), watched)
                wanted = sum(seen_by_words(lay, watched) == joints for lay in model_kept_lays(4))
                self.assertEqual(many_showing(4, watched, joints), wanted)
        whole = tuple(range(12))
        self.assertEqual(many_showing(12, whole, some_lay(12, 9, 1)[1]), 1)
        self.assertEqual(many_showing(12, whole, ()), 1)
        # 24 ends, some of them joined: no link watched
        counts = [1, 1]
        for things in range(2, 25):
            counts.append(counts[-1] + (things - 1) * counts[-2])
        self.assertEqual(many_showing(12, (), ()), counts[24])
        self.assertEqual(many_showing(12, (5,), ((10, 11),)), counts[22])
        self.assertEqual(many_showing(12, (5,), ()), counts[24] - counts[22])
        for watched in ((0, 11), tuple(range(0, 12, 2)), tuple(range(11))):
            joints = seen_by_words(some_lay(12, 12, 3), watched)
            free = 2 * len(watched) - 2 * len(joints)
            others = 24 - 2 * len(watched)
            total = 0
            # the ends that are seen free, one by one, are free or joined to one of the others
            ways = {others: 1}
            for _ in range(free):
                more = {}
                for left, count in ways.items():
                    more[left] = more.get(left, 0) + count
                    if left:
                        more[left - 1] = more.get(left - 1, 0) + left * count
                ways = more
            total = sum(count * counts[left] for left, count in ways.items())
            self.assertEqual(many_showing(12, watched, joints), total)

    def test_number_then_links_then_joints(self):
        for value in ODD_VALUES + [0, 13, -1, "3"]:
            if not is_whole(value, 1, 12):
                wanted = strict(("BadNumber", {"value": value}))
                self.assertEqual(strict(tells(many_showing, value, None, None)), wanted)
        for value in ODD_VALUES + [[0], (0, 0), (1, 0), (3,), (True,), (0, None)]:
            if not is_watched(value, 3):
                wanted = strict(("BadLink", {"value": value}))
                self.assertEqual(strict(tells(many_showing, 3, value, None)), wanted)
        rows = ODD_VALUES + [((0, 2),), ((1, 0),), ((0, 1), (0, 1)), [(0, 1)], ((0, True),), ((0, 1), (1, 4))]
        for value in rows + [((0, 4), (2, 5)), ((0, 4), (1, 5)), ((4, 5), (0, 1)), ((0, 1), (4, 5)), ((0, 4), None)]:
            found = tells(many_showing, 3, (0, 2), value)
            if is_row(value, (0, 2)):
                self.assertEqual(found[0], "value", value)
            else:
                self.assertEqual(strict(found), strict(("BadLog", {"place": 0})), value)


class Menus(unittest.TestCase):
    def test_by_words(self):
        for links in (1, 2, 3):
            for watched in SUBSETS[links]:
                for _ in range(6):
                    lay = DRAW.choice(model_kept_lays(links))
                    walks = [walk(lay, DRAW.choice((0, 1, 2, 3, 7))) for _ in range(DRAW.randint(1, 8))]
                    menu = tuple(history for history, _ in walks)
                    shown = [tuple(seen_by_words(met, watched) for met in lays) for _, lays in walks]
                    for rows in shown + [((),), ((),) * 8]:
                        wanted = tuple(number for number, told in enumerate(shown) if told == rows)
                        self.assertEqual(strict(fitting_rows(lay, menu, (watched, rows))), strict(wanted))

    def test_what_the_document_tells(self):
        join, cut = ((), ((3, 4),)), (((0, 1),), ())
        menu = ((), (join,), (cut,), (join, cut), (cut, join), (cut, join))
        self.assertEqual(fitting_rows(LAY, menu, ((0,), (((0, 1),),))), (0,))
        self.assertEqual(fitting_rows(LAY, menu, ((0,), (((0, 1),), ()))), (2,))
        self.assertEqual(fitting_rows(LAY, menu, ((0,), (((0, 1),), (), ()))), (4, 5))
        self.assertEqual(fitting_rows(LAY, menu, ((0,), (((0, 1),), ((0, 1),), ()))), (3,))
        self.assertEqual(fitting_rows(LAY, menu, ((), ((), (), ()))), (3, 4, 5))
        self.assertEqual(fitting_rows(LAY, menu, ((0,), ((),))), ())

    def test_twelve_links(self):
        lay = some_lay(12, 10, 4)
        watched = (1, 4, 9)
        rows = (seen_by_words(lay, watched),)
        self.assertEqual(fitting_rows(lay, ((), ()), (watched, rows)), (0, 1))
        self.assertEqual(tells(fitting_rows, lay, ((),), ((12,), rows)), ("BadLog", {"place": None}))

    def test_menus(self):
        join = ((), ((3, 4),))
        log = (0,), (((0, 1),),)
        self.assertEqual(fitting_rows(LAY, ((),) * 8, log), tuple(range(8)))
        for value in ODD_VALUES + [((),) * 9, [()], [(join,)], {0: ()}]:
            if isinstance(value, tuple) and 1 <= len(value) <= 8:
                continue
            self.assertEqual(tells(fitting_rows, LAY, value, None), ("BadHistory", {"place": None}))
        wrong = [None, True, 0, "", [], [join], join, (join, join), ((),), (None,), (list(join),), (join,) * 61]
        for value in wrong:
            for ahead in range(8):
                menu = ((),) * ahead + (value,)
                self.assertEqual(tells(fitting_rows, LAY, menu, None), ("BadHistory", {"place": ahead}), value)
            self.assertEqual(tells(fitting_rows, LAY, ((), value, None), log), ("BadHistory", {"place": 1}))
        long = (join, (join[1], join[0])) * 30
        self.assertEqual(fitting_rows(LAY, (long, ()), log), (1,))
        self.assertEqual(tells(fitting_rows, LAY, (long + (join,),), log), ("BadHistory", {"place": 0}))
        for wrong, place in WRONG_LAYS:
            self.assertEqual(tells(fitting_rows, wrong, None, None), ("BadLay", {"place": place}))


class Ends(unittest.TestCase):
    def test_by_going_through_all_lays(self):
        met = {True: 0, False: 0}
        for links, log in SOME:
            first, last, shown = ends_by_words(links, log)
            self.assertEqual(strict(first_lays(links, log)), strict(first))
            self.assertEqual(strict(last_lays(links, log)), strict(last))
            wanted = None if shown == len(log[1]) else shown
            self.assertEqual(strict(first_false(links, log)), strict(wanted))
            met[shown == len(log[1])] += 1
        self.assertGreater(min(met.values()), 10)

    def test_what_the_document_tells(self):
        for links in (1, 2, 3):
            everything = tuple(model_kept_lays(links))
            for rows in range(1, 9):
                self.assertEqual(first_lays(links, ((), ((),) * rows)), everything)
                self.assertEqual(last_lays(links, ((), ((),) * rows)), everything)
                self.assertIsNone(first_false(links, ((), ((),) * rows)))
        # with all links watched two rows one behind the other are never the same
        both = (0, 1), ((), ((0, 1),), ((0, 1),))
        self.assertEqual((first_lays(2, both), last_lays(2, both), first_false(2, both)), ((), (), 2))
        far = (0, 1), ((), ((0, 1), (2, 3)))
        self.assertEqual((first_lays(2, far), first_false(2, far)), ((), 1))
        # once nothing is left, what comes behind changes nothing
        self.assertEqual(first_false(2, ((0, 1), far[1] + ((),) * 6)), 1)
        self.assertEqual(last_lays(2, ((0, 1), (((0, 1),), ()))), ((2, ()),))
        self.assertEqual(first_lays(1, ((0,), (((0, 1),), ()))), ((1, ((0, 1),)),))
        # what is not watched can change: one step behind a joint is seen the same
        still = (0,), (((0, 1),), ((0, 1),))
        self.assertEqual(first_false(1, still), 1)
        self.assertIsNone(first_false(2, still))

    def test_one_row_and_eight_and_nine(self):
        for call in (first_lays, last_lays, first_false):
            for rows in (1, 8):
                self.assertEqual(tells(call, 3, ((1,), ((),) * rows))[0], "value")
            for rows in (0, 9, 20):
                self.assertEqual(tells(call, 3, ((1,), ((),) * rows)), ("BadLog", {"place": None}))

    def test_numbers_of_links(self):
        for call in (first_lays, last_lays, first_false):
            for value in ODD_VALUES + [0, 4, 12, -1, "1"]:
                if not is_whole(value, 1, 3):
                    self.assertEqual(strict(tells(call, value, None)), strict(("BadNumber", {"value": value})))

    def test_logs(self):
        calls = [(call, [3]) for call in (first_lays, last_lays, first_false)] + [(fitting_rows, [LAY, ((),)])]
        for call, rest in calls:
            for value, place in WRONG_LOGS:
                self.assertEqual(log_fault(value, 3), (True, place), value)
                self.assertEqual(strict(tells(call, *rest, value)), strict(("BadLog", {"place": place})), value)
            for value in ODD_VALUES:
                bad, place = log_fault(value, 3)
                self.assertTrue(bad)
                self.assertEqual(tells(call, *rest, value), ("BadLog", {"place": place}))
        for log in (((0, 2), (((0, 1), (4, 5)), ((0, 4),))), ((1,), (((2, 3),), ()))):
            for value in list(spoiled(log)) + truth_values(log):
                bad, place = log_fault(value, 3)
                for call in (first_lays, first_false):
                    found = tells(call, 3, value)
                    if bad:
                        self.assertEqual(strict(found), strict(("BadLog", {"place": place})), value)
                    else:
                        self.assertEqual(found[0], "value", value)
        # what is watched is of as many links as are told
        self.assertEqual(tells(first_lays, 2, ((2,), ((),))), ("BadLog", {"place": None}))
        self.assertEqual(tells(first_lays, 3, ((2,), ((),)))[0], "value")


if __name__ == "__main__":
    unittest.main()
