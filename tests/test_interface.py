"""The interface: its names and parameters; [0] to [3] for each function of it."""

import copy
import importlib
import inspect
import unittest

from doublecut.errors import Unlike

from tests.helpers import ODD_VALUES, WRONG_LAYS, strict, tells

ONE, OTHER, THIRD = (3, ((0, 1), (2, 3))), (3, ((1, 2), (4, 5))), (3, ((0, 5),))
STEP = (((0, 1),), ((1, 4),))
LOT = (("odd", 1), ("odd", 3), ("open", 2), ("shut", 4))
CHAINS = (((1, -2),), ((3,),))

# each function with its parameters, in their order, and valid arguments
STAGE_ONE = {
    "lays": {
        "need_lay": {"lay": ONE}, "need_several": {"several": (ONE, OTHER)}, "is_lay": {"value": ONE},
        "need_two": {"one": ONE, "other": OTHER}, "free_ends": {"lay": ONE}, "mate_of": {"lay": ONE, "end": 1},
        "renamed": {"lay": ONE, "order": (2, -3, 1)}, "without": {"lay": ONE, "link": 2},
        "beside": {"one": ONE, "other": OTHER},
    },
    "chains": {
        "chains_of": {"lay": ONE}, "need_chains": {"chains": CHAINS}, "lay_of": {"chains": CHAINS},
        "tidied": {"chains": CHAINS}, "chain_with": {"lay": ONE, "link": 2}, "count_chains": {"lay": ONE},
    },
    "steps": {
        "all_steps": {"lay": ONE}, "is_step": {"lay": ONE, "value": STEP}, "need_step": {"lay": ONE, "step": STEP},
        "lay_behind": {"lay": ONE, "step": STEP}, "step_back": {"lay": ONE, "step": STEP},
        "step_between": {"one": ONE, "other": OTHER}, "sort_of": {"lay": ONE, "step": STEP},
        "change_of": {"lay": ONE, "step": STEP},
    },
    "histories": {
        "need_history": {"lay": ONE, "history": (STEP,)}, "is_history": {"lay": ONE, "value": (STEP,)},
        "last_lay": {"lay": ONE, "history": (STEP,)}, "lays_along": {"lay": ONE, "history": (STEP,)},
        "backwards": {"lay": ONE, "history": (STEP,)}, "plain_history": {"one": ONE, "other": OTHER},
        "shortened": {"lay": ONE, "history": (STEP,)}, "comes_again": {"lay": ONE, "history": (STEP,)},
        "touched": {"lay": ONE, "history": (STEP,)},
    },
}
STAGE_TWO = {
    "counted": {
        "count_lays": {"links": 3}, "count_with": {"links": 3, "lines": 1, "rings": 2}, "all_lays": {"links": 3},
        "lay_number": {"lay": ONE}, "lay_by_number": {"links": 3, "number": 5}, "count_steps": {"lay": ONE},
        "count_histories": {"lay": ONE, "many": 7},
    },
    "webs": {
        "pieces": {"one": ONE, "other": OTHER}, "kinds": {"one": ONE, "other": OTHER},
        "rows": {"one": ONE, "other": OTHER}, "row_of": {"one": ONE, "other": OTHER, "end": 4},
    },
    "costs": {
        "least_steps": {"one": ONE, "other": OTHER}, "is_between": {"one": ONE, "third": THIRD, "other": OTHER},
        "within_paper": {"one": ONE, "other": OTHER, "most": 3},
        "check_within": {"one": ONE, "other": ONE, "most": 3, "paper": ("within", ())},
    },
    "good": {
        "change": {"one": ONE, "other": OTHER, "step": STEP}, "is_good": {"one": ONE, "other": OTHER, "step": STEP},
        "good_steps": {"one": ONE, "other": OTHER}, "first_good": {"one": ONE, "other": OTHER},
        "good_counts": {"one": ONE, "other": OTHER}, "sorts": {"one": ONE, "other": OTHER},
    },
    "spheres": {
        "sphere_size": {"lay": ONE, "number": 2}, "sphere_sizes": {"lay": ONE}, "sphere": {"lay": ONE, "number": 2},
        "pairs_count": {"links": 3, "number": 2},
    },
    "lots": {
        "need_lot": {"value": LOT}, "lot_of": {"one": ONE, "other": OTHER}, "lot_cost": {"lot": LOT},
        "lot_ways": {"lot": LOT}, "lot_count": {"lot": LOT}, "lot_product": {"lot": LOT}, "lays_of": {"lot": LOT},
    },
}
LINE, BENT, TORN = (3, ((1, 2), (3, 4))), (3, ((1, 3), (2, 4))), (3, ((0, 2),))
LINES = (LINE, BENT)
SINGLE_TREES = (("link", 2), ("link", 0), ("link", 1))
STAGE_THREE = {
    "least": {
        "least_count": {"one": ONE, "other": OTHER}, "a_least": {"one": ONE, "other": OTHER},
        "is_least": {"one": ONE, "other": OTHER, "value": ()}, "all_least": {"one": ONE, "other": OTHER},
    },
    "numbered": {
        "least_at": {"one": ONE, "other": OTHER, "number": 1},
        "number_of": {"one": ONE, "other": OTHER, "history": (STEP,)}, "first_counts": {"one": ONE, "other": OTHER},
        "count_through": {"one": ONE, "other": OTHER, "third": THIRD},
    },
    "between": {
        "lies_between": {"one": ONE, "other": OTHER, "third": THIRD}, "between_counts": {"one": ONE, "other": OTHER},
        "all_between": {"one": ONE, "other": OTHER}, "joints_between": {"one": ONE, "other": OTHER},
        "free_between": {"one": ONE, "other": OTHER},
    },
    "smooth": {"smooth_history": {"one": LINE, "other": TORN}, "is_smooth": {"one": LINE, "value": ()}},
    "stretches": {
        "stretches": {"several": LINES, "number": 1}, "is_kept": {"several": LINES, "lot": (0, 2)},
        "lot_paper": {"several": LINES, "lot": (0, 2)},
        "check_lot": {"several": LINES, "lot": (0, 2), "paper": ("torn", 0, 0, 1, 2)},
    },
    "kept": {
        "kept_lots": {"several": LINES}, "strong_lots": {"several": LINES}, "greatest_lots": {"several": LINES},
        "many_kept": {"several": LINES}, "shared_joints": {"several": LINES},
        "least_lot": {"several": LINES, "one": 0, "other": 2},
    },
}
DOUBLED, PERFECT = (4, ((0, 1), (2, 4))), (4, ((0, 5), (1, 4)))
STAGE_FOUR = {
    "forest": {
        "forest": {"several": LINES}, "check_forest": {"several": (LINE, LINE[:1] + ((),)), "paper": SINGLE_TREES},
        "count_orders": {"several": LINES}, "is_order": {"several": LINES, "value": (0, 2, 1)},
        "all_orders": {"several": LINES},
    },
    "doubled": {
        "is_perfect": {"lay": DOUBLED}, "half": {"lay": PERFECT}, "doublings": {"lay": ONE},
        "count_doublings": {"lay": ONE}, "doubling_at": {"lay": ONE, "number": 3},
        "is_doubling": {"lay": ONE, "value": (6, ())}, "twice": {"lay": ONE},
    },
    "halves": {
        "twin_pieces": {"lay": DOUBLED}, "halving_cost": {"lay": DOUBLED}, "nearest_perfect": {"lay": DOUBLED},
        "nearest_halves": {"lay": DOUBLED},
    },
    "halving": {
        "good_halvings": {"lay": DOUBLED}, "halving": {"lay": DOUBLED}, "halved": {"lay": DOUBLED},
        "halving_paper": {"lay": DOUBLED},
        "check_halving": {"lay": PERFECT, "paper": ((), (("path", 1),) * 2 + (("ring", 2),))},
        "count_halvings": {"lay": DOUBLED, "many": 2},
    },
    "single": {
        "is_single": {"lay": ONE, "step": STEP}, "single_steps": {"lay": ONE},
        "single_number": {"one": ONE, "other": OTHER}, "single_count": {"one": ONE, "other": OTHER},
        "single_at": {"one": ONE, "other": OTHER, "number": 1},
        "single_place": {"one": ONE, "other": OTHER, "history": (STEP,)},
    },
}
TREE = ("fork", ("fork", ONE, OTHER), THIRD)
WORTHS = ((1, 0, 0, 0), ((0, 1, 5), (0, 2, 5), (1, 2, 5)))
TOLLS, LOTS = (1, 0, 0, 0), (((0, 1, 2), 5),)
TERM = ("cut", ("beside", ("ring", 1), ("line", 2)), 1)
STAGE_FIVE = {
    "middles": {
        "joint_counts": {"several": (ONE, OTHER)}, "kept_lay": {"several": (ONE, OTHER)},
        "single_sum": {"several": (ONE, OTHER), "lay": THIRD}, "least_sum": {"several": (ONE, OTHER)},
        "is_middle": {"several": (ONE, OTHER), "lay": THIRD}, "middle_count": {"several": (ONE, OTHER)},
        "middles": {"several": (ONE, OTHER)},
    },
    "trees": {
        "need_tree": {"tree": TREE}, "leaves": {"tree": TREE}, "tree_sum": {"tree": TREE},
        "tree_labels": {"tree": TREE},
        "labels_sum": {"tree": TREE, "labels": ("fork", ONE, ("fork", OTHER, ONE, OTHER), THIRD)},
        "are_least": {"tree": TREE, "value": ("fork", ONE, ("fork", OTHER, ONE, OTHER), THIRD)},
        "tree_paper": {"tree": TREE}, "check_tree": {"tree": ONE, "paper": (ONE, ())},
    },
    "worths": {
        "need_worths": {"worths": WORTHS}, "worth_of": {"worths": WORTHS, "lay": (2, ((0, 1),))},
        "worths_of": {"several": (ONE, OTHER)}, "common": {"one": ONE, "other": OTHER},
    },
    "pairing": {
        "greatest_worth": {"worths": WORTHS}, "greatest_lay": {"worths": WORTHS}, "count_greatest": {"worths": WORTHS},
        "sure_joints": {"worths": WORTHS}, "possible_joints": {"worths": WORTHS}, "sure_frees": {"worths": WORTHS},
        "middle_of": {"several": (ONE, OTHER)}, "count_middles": {"several": (ONE, OTHER)},
    },
    "tolls": {
        "bound_of": {"worths": WORTHS, "tolls": TOLLS, "lots": LOTS}, "tolls_paper": {"worths": WORTHS},
        "check_tolls": {"worths": WORTHS, "paper": ((2, ((1, 2),)), TOLLS, LOTS)},
        "tight_joints": {"worths": WORTHS, "paper": ((2, ((1, 2),)), TOLLS, LOTS)},
        "tight_frees": {"worths": WORTHS, "paper": ((2, ((1, 2),)), TOLLS, LOTS)},
    },
    "terms": {
        "need_term": {"term": TERM}, "lay_of": {"term": TERM}, "terms_in": {"term": TERM},
        "step_of": {"lay": ONE, "deed": ("cross", 0, 2)}, "deed_of": {"lay": ONE, "step": STEP},
    },
}
SAYING = ("or", ("free", 4), ("not", ("away", OTHER, 2)))
SHEET = "line 3\nlinks 3\nsay or free 4 rings 1\nrow o1.2.3 cross 0 5\ngood o1.2.3 2"
LOG = ((0, 2), (((0, 1),), ()))
STAGE_SIX = {
    "says": {"need_saying": {"lay": ONE, "saying": SAYING}, "is_so": {"lay": ONE, "saying": SAYING}},
    "lines": {
        "lay_word": {"lay": ONE}, "term_text": {"term": TERM}, "saying_text": {"lay": ONE, "saying": SAYING},
        "read_lay": {"text": "o1.2/-3"}, "read_term": {"text": "cut 0 beside ring 1 line 2"},
        "read_saying": {"lay": ONE, "text": "or free 4 not away 1.2/o3 2"},
    },
    "sheets": {"lay_told": {"text": SHEET}, "judged": {"text": SHEET}},
    "logs": {
        "seen": {"lay": ONE, "links": (0, 2)}, "many_showing": {"count": 3, "links": (0, 2), "joints": ((0, 4),)},
        "fitting_rows": {"lay": ONE, "menu": ((), (STEP,)), "log": LOG}, "first_lays": {"many": 3, "log": LOG},
        "last_lays": {"many": 3, "log": LOG}, "first_false": {"many": 3, "log": LOG},
    },
}
MODULES = {**STAGE_ONE, **STAGE_TWO, **STAGE_THREE, **STAGE_FOUR, **STAGE_FIVE, **STAGE_SIX}

IS_FUNCTIONS = ["is_lay", "is_step", "is_history", "is_least", "is_smooth", "is_order", "is_doubling", "are_least"]


def is_pair(value):
    return isinstance(value, tuple) and len(value) == 2


# values that no argument of this name can be, beside a lay of three links, and how they are refused
WRONG_HISTORIES = [(value, 0 if isinstance(value, tuple) else None) for value in ODD_VALUES if value != ()]
WRONG_LOTS = [(value, (0,) if isinstance(value, tuple) and value else ()) for value in ODD_VALUES]
WRONG = {
    "lay": [(lay, "BadLay", "place", place) for lay, place in WRONG_LAYS],
    "several": [((ONE, lay), "BadSeveral", "place", 1) for lay, _ in WRONG_LAYS]
    + [(value, "BadSeveral", "place", None) for value in (None, True, 1, "", b"", [ONE], (), (ONE,) * 7, {0: ONE})],
    "end": [(value, "BadEnd", "value", value) for value in ODD_VALUES + [6] if strict(value) not in ("0", "1", "2")],
    "link": [(value, "BadLink", "value", value) for value in ODD_VALUES + [3] if strict(value) not in ("0", "1", "2")],
    "order": [(value, "BadNumber", "value", value) for value in ODD_VALUES + [[2, -3, 1], (1, 2, 4)]],
    "chains": [(value, "BadChains", "place", ()) for value in (None, True, 1, "", b"", [], (), ((), ()), [(), ()])]
    + [((None, ()), "BadChains", "place", (0,)), (((), None), "BadChains", "place", (1,))],
    "step": [(value, "BadStep", "value", value) for value in ODD_VALUES + [list(STEP), (((2, 3),), ((0, 1),))]],
    "history": [(value, "BadHistory", "place", place) for value, place in WRONG_HISTORIES],
    "links": [
        (value, "BadNumber", "value", value) for value in ODD_VALUES + [0] if strict(value) not in ("1", "2")
    ],
    "lines": [(value, "BadNumber", "value", value) for value in (None, True, False, -1, 13, 10 ** 999, "1", [1], (1,))],
    "number": [
        (value, "BadNumber", "value", value) for value in (None, True, False, -1, 76, 10 ** 999, "1", b"1", [1], (1,))
    ],
    "many": [
        (value, "BadNumber", "value", value) for value in ODD_VALUES if strict(value) not in ("0", "1", "2", "13")
    ],
    "paper": [(value, "BadPaper", "word", "form") for value in ODD_VALUES],
    "lot": [(value, "BadLot", "place", place) for value, place in WRONG_LOTS],
    "tree": [(value, "BadTree", "path", ()) for value in ODD_VALUES]
    + [(("fork", ONE, lay), "BadTree", "path", (2,)) for lay, _ in WRONG_LAYS]
    + [(("fork", ONE, (2, ())), "BadTree", "path", (2,)),
       (("fork", ("fork", ONE, ()), None), "BadTree", "path", (1, 2))],
    "labels": [(value, "BadPaper", "word", "labels") for value in ODD_VALUES],
    "worths": [(value, "BadWorths", "place", (0,) if is_pair(value) else ()) for value in ODD_VALUES]
    + [(((0, 25), ()), "BadWorths", "place", (0,)), (((0, 0), [()]), "BadWorths", "place", (1,)),
       (((0, 0), (None,)), "BadWorths", "place", (1, 0)), (((0,) * 14, ()), "BadWorths", "place", (0,))],
    "term": [(value, "BadTerm", "path", ()) for value in ODD_VALUES]
    + [(("turn", value, 0), "BadTerm", "path", (1,)) for value in ODD_VALUES]
    + [(("cut", ("bare", 1), 0), "BadTerm", "path", ()),
       (("turn", ("cut", ("bare", 1), 0), 0), "BadTerm", "path", (1,))],
    "saying": [(value, "BadSaying", "path", ()) for value in ODD_VALUES]
    + [(("and", ("free", 0), value), "BadSaying", "path", (2,)) for value in ODD_VALUES]
    + [(("free", 6), "BadSaying", "path", ()), (("away", (2, ()), 1), "BadSaying", "path", ())],
    "text": [(value, "BadText", ("line", "word"), (None, None)) for value in ODD_VALUES if not isinstance(value, str)]
    + [(value, "BadText", ("line", "word"), (0, 0)) for value in ("", " ", "\n", "x", "lay", "o")],
    "log": [(value, "BadLog", "place", None) for value in ODD_VALUES] + [(((0,), (None,)), "BadLog", "place", 0)],
    "menu": [(value, "BadHistory", "place", 0 if isinstance(value, tuple) and value else None)
             for value in ODD_VALUES if strict(value) != "((), ())"],
    "count": [(value, "BadNumber", "value", value) for value in ODD_VALUES if strict(value) not in ("1", "2")],
    "joints": [(value, "BadLog", "place", 0) for value in ODD_VALUES if strict(value) not in ("()", "((0, 1),)")],
    "deed": [(value, "BadStep", "value", value) for value in ODD_VALUES + [("cut", 4), ("cross", 0, 1), ["cut", 0]]],
}
for same, name in (("one", "lay"), ("other", "lay"), ("third", "lay"), ("rings", "lines"), ("most", "many")):
    WRONG[same] = WRONG[name]

# the same, where a module or a function has arguments of another kind by these names
WRONG_LINKS = [(value, "BadLink", "value", value) for value in ODD_VALUES + [[0, 1], (0, 0), (1, 0), (0, 3), {}]]
WRONG_SEVERAL = WRONG["several"] + [
    ((LINE, ONE), "BadSeveral", "place", 1), ((LINE, (2, ()), (0, ())), "BadSeveral", "place", 2),
]
WRONG_HERE = {
    ("need_lot", "value"): WRONG["lot"],
    ("kept", "one"): WRONG["link"], ("kept", "other"): WRONG["link"],
    ("stretches", "number"): [row for row in WRONG_LINKS if strict(row[0]) not in ("0", "1")],
    ("stretches", "lot"): [row for row in WRONG_LINKS if strict(row[0]) not in ("(0,)", "(0, 1)")],
    ("stretches", "several"): WRONG_SEVERAL, ("kept", "several"): WRONG_SEVERAL, ("forest", "several"): WRONG_SEVERAL,
    ("forest", "paper"): [row for row in WRONG["paper"] if row[0] != ()] + [((), "BadPaper", "word", "lots")],
    ("logs", "links"): [row for row in WRONG_LINKS if strict(row[0]) not in ("()", "(0,)", "(0, 1)")],
    ("logs", "many"): [row for row in WRONG["count"]],
    ("trees", "paper"): [(value, "BadPaper", "word", "labels" if is_pair(value) else "form") for value in ODD_VALUES],
    ("halving", "paper"): [row for row in WRONG["paper"] if not is_pair(row[0])],
}


def module_of(call):
    return call.__module__.split(".")[-1]


def wrong_for(call, parameter):
    for name in (call.__name__, module_of(call)):
        if (name, parameter) in WRONG_HERE:
            return WRONG_HERE[(name, parameter)]
    return WRONG.get(parameter, [])


def refused_so(error, field, told):
    """A text of how a call ends that raises this with one field, or with several of them."""
    fields = dict(zip(field, told)) if isinstance(field, tuple) else {field: told}
    return strict((error, fields))


def all_functions():
    for module, functions in MODULES.items():
        for name, valid in functions.items():
            yield getattr(importlib.import_module("doublecut." + module), name), valid


class Interface(unittest.TestCase):
    def test_names_and_parameters(self):
        for module, functions in MODULES.items():
            loaded = importlib.import_module("doublecut." + module)
            for name, valid in functions.items():
                call = getattr(loaded, name)
                self.assertTrue(inspect.isfunction(call))
                self.assertEqual(call.__module__, "doublecut." + module)
                told = inspect.signature(call).parameters
                self.assertEqual(list(told), list(valid), name)
                for parameter in told.values():
                    self.assertEqual(parameter.kind, inspect.Parameter.POSITIONAL_OR_KEYWORD)
                    self.assertIs(parameter.default, inspect.Parameter.empty)

    def test_by_position_and_by_name_and_again(self):
        for call, valid in all_functions():
            told = strict(list(valid.values()))
            found = tells(call, *valid.values())
            self.assertEqual(found[0], "value", (call, found))
            self.assertEqual(strict(tells(call, **valid)), strict(found), call)
            backwards = dict(list(valid.items())[::-1])
            self.assertEqual(strict(tells(call, **backwards)), strict(found), call)
            self.assertEqual(strict(tells(call, *valid.values())), strict(found), call)
            self.assertEqual(strict(list(valid.values())), told)

    def test_wrong_values_of_each_argument(self):
        for call, valid in all_functions():
            for name in valid:
                for value, error, field, told in wrong_for(call, name):
                    kept = copy.deepcopy(value)
                    found = tells(call, **{**valid, name: value})
                    self.assertEqual(strict(found), refused_so(error, field, told), (call, name, value))
                    self.assertEqual(strict(value), strict(kept))

    def test_the_first_wrong_argument_is_refused(self):
        for call, valid in all_functions():
            names = [name for name in valid if wrong_for(call, name)]
            for at, name in enumerate(names):
                for value, error, field, told in wrong_for(call, name)[::3]:
                    for behind in (0, -1):
                        others = {other: wrong_for(call, other)[behind][0] for other in names[at + 1:]}
                        found = tells(call, **{**valid, name: value, **others})
                        self.assertEqual(strict(found), refused_so(error, field, told), (call, name, value))

    def test_unlike_lays_behind_both_and_ahead_of_the_rest(self):
        for call, valid in all_functions():
            lays = [name for name in valid if name in ("one", "third", "other")]
            if len(lays) < 2 or call.__name__ == "beside" or module_of(call) == "kept":
                continue
            rest = {name: None for name in valid if name not in lays}
            for name in lays:
                for lay in ((2, ()), (12, ((0, 1),)), (4, ((0, 1), (2, 3)))):
                    self.assertEqual(tells(call, **{**valid, name: lay}), ("Unlike", {}), (call, name))
                    self.assertEqual(tells(call, **{**valid, **rest, name: lay}), ("Unlike", {}), (call, name))
        self.assertEqual(vars(Unlike()), {})

    def test_unlike_several_ahead_of_the_rest(self):
        for call, valid in all_functions():
            if "several" in valid:
                rest = {name: None for name in valid if name != "several"}
                for several in ((LINE, (2, ())), ((2, ()), LINE, LINE), (LINE, LINE, (4, ((0, 1),)))):
                    self.assertEqual(tells(call, **{**valid, "several": several}), ("Unlike", {}), call)
                    self.assertEqual(tells(call, **{**rest, "several": several}), ("Unlike", {}), call)

    def test_is_functions_take_any_value(self):
        met = []
        for call, valid in all_functions():
            if list(valid)[-1] == "value" and call.__name__ != "need_lot":
                met.append(call.__name__)
                for value in ODD_VALUES:
                    wanted = strict(value) == "()" and call.__name__ in ("is_history", "is_smooth")
                    self.assertEqual(strict(call(**{**valid, "value": value})), strict(wanted), (call, value))
        self.assertEqual(met, IS_FUNCTIONS)


if __name__ == "__main__":
    unittest.main()
