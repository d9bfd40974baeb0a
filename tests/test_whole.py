"""Tests of points 1 to 3 over the whole program: its interface, and what holds for each call."""

import copy
import importlib
import inspect
import itertools
import unittest

from graftrules import errors
from graftrules.errors import TreeError
from graftrules.lots import Lot
from graftrules.machine import Machine
from graftrules.wood import Wood
from tests.helper import A, AB, B, BC, C, D, LETTERS, Z, any_values

# Each function and class of the interface, by the file in which it is defined, with its parameters.
INTERFACE = {
    "errors": {
        "NoPlace": "(place)", "BadLot": "(number)", "NoRule": "(number)", "NoStep": "(at)", "GoesOn": "()",
        "TooLong": "(number)", "TooLarge": "(nodes)", "TooMany": "(limit)", "NothingDone": "()",
        "UnknownMark": "(number)", "InvalidText": "(at)",
    },
    "trees": {
        "is_tree": "(value)", "size": "(tree)", "parts": "(tree)", "ordered": "(trees)", "places": "(tree)",
        "part_at": "(tree, place)", "put": "(tree, place, part)",
    },
    "lots": {"Lot": "(rules)", "steps": "(lot, tree)", "after": "(lot, tree, way)"},
    "ways": {
        "least_steps": "(lot, tree, other)", "number_table": "(lot, tree, other)", "becomes": "(lot, tree, other)",
        "is_way": "(lot, tree, other, value)", "is_fence": "(lot, tree, other, value)",
    },
    "machine": {"reading": "(lot, tree)", "Machine": "(lot, signs, *, limit=60)"},
    "endings": {
        "ending": "(lot)", "is_order": "(lot, value)", "is_ring": "(lot, value)", "greatest": "(lot, tree)",
        "most_steps": "(lot, tree)", "longest": "(lot, tree)",
    },
    "ends": {
        "meeting": "(lot, tree, other)", "overlaps": "(lot)", "all_meet": "(lot)", "is_still": "(lot, tree)",
        "ends": "(lot, tree, *, limit=50)", "least_split": "(lot)",
    },
    "likeness": {
        "leads_same": "(one, other)", "is_unlike": "(one, other, value)", "spared": "(lot, number)", "trimmed": "(lot)",
    },
    "equals": {
        "least_bridge": "(lot, tree, other)", "equal": "(lot, tree, other)", "is_bridge": "(lot, tree, other, value)",
        "is_parting": "(lot, tree, other, value)", "classes": "(lot)",
    },
    "settled": {"settled": "(lot)", "least_equal": "(lot, tree)", "same_equalities": "(one, other)"},
    "still": {"still_count": "(lot, signs, size)", "still_trees": "(lot, signs, most)"},
    "wood": {"Wood": "(lot, tree)"},
    "text": {"write_tree": "(tree)", "write_lot": "(lot)", "read_tree": "(text)", "read_lot": "(text)"},
}
METHODS = {
    Lot: {"rules": "()", "parts": "()", "turned": "()", "without": "(number)", "__len__": "()", "__contains__": "(value)",
          "__eq__": "(other)", "__add__": "(other)"},
    Machine: {"readings": "()", "after": "(name, numbers)", "how_many": "(part, size)", "__len__": "()"},
    Wood: {"lot": "()", "done": "()", "go": "(place, number)", "admit": "(rule)", "drop": "(number)", "undo": "()",
           "mark": "()", "back": "(number)", "left": "(goal)", "fork": "()"},
}
RULES = [AB, (("f", B), C), BC]
TREE = ("f", A, ("f", A))
OTHER = ("f", B, C)
SIGNS = [("a", 0), ("b", 0), ("f", 1)]
# For each function the names of its arguments with makers of new ones, which are equal each time.
CALLS = [
    ("trees", "is_tree", {"value": lambda: TREE}),
    ("trees", "size", {"tree": lambda: TREE}),
    ("trees", "parts", {"tree": lambda: TREE}),
    ("trees", "ordered", {"trees": lambda: [OTHER, TREE, A, TREE]}),
    ("trees", "places", {"tree": lambda: TREE}),
    ("trees", "part_at", {"tree": lambda: TREE, "place": lambda: (1, 0)}),
    ("trees", "put", {"tree": lambda: TREE, "place": lambda: (1, 0), "part": lambda: OTHER}),
    ("lots", "steps", {"lot": lambda: Lot(RULES), "tree": lambda: TREE}),
    ("lots", "after", {"lot": lambda: Lot(RULES), "tree": lambda: TREE, "way": lambda: [((0,), 0), ((1, 0), 0)]}),
    ("ways", "least_steps", {"lot": lambda: Lot(RULES), "tree": lambda: TREE, "other": lambda: OTHER}),
    ("ways", "number_table", {"lot": lambda: Lot(RULES), "tree": lambda: TREE, "other": lambda: OTHER}),
    ("ways", "becomes", {"lot": lambda: Lot(RULES), "tree": lambda: TREE, "other": lambda: OTHER}),
    ("ways", "becomes", {"lot": lambda: Lot(RULES), "tree": lambda: OTHER, "other": lambda: TREE}),
    ("ways", "is_way", {"lot": lambda: Lot(RULES), "tree": lambda: A, "other": lambda: B, "value": lambda: [((), 0)]}),
    ("ways", "is_fence", {"lot": lambda: Lot([AB]), "tree": lambda: B, "other": lambda: A,
                          "value": lambda: [(A, A), (A, B), (B, B)]}),
    ("machine", "reading", {"lot": lambda: Lot(RULES), "tree": lambda: ("f", A)}),
    ("endings", "ending", {"lot": lambda: Lot(RULES)}),
    ("endings", "ending", {"lot": lambda: Lot(RULES + [(C, A)])}),
    ("endings", "is_order", {"lot": lambda: Lot(RULES), "value": lambda: [0, 1, 2]}),
    ("endings", "is_ring", {"lot": lambda: Lot([(A, ("f", A))]), "value": lambda: [(0, (0,))]}),
    ("endings", "greatest", {"lot": lambda: Lot(RULES), "tree": lambda: TREE}),
    ("endings", "most_steps", {"lot": lambda: Lot(RULES), "tree": lambda: TREE}),
    ("endings", "longest", {"lot": lambda: Lot(RULES), "tree": lambda: TREE}),
    ("ends", "meeting", {"lot": lambda: Lot(RULES), "tree": lambda: TREE, "other": lambda: OTHER}),
    ("ends", "overlaps", {"lot": lambda: Lot(RULES)}),
    ("ends", "all_meet", {"lot": lambda: Lot(RULES)}),
    ("ends", "all_meet", {"lot": lambda: Lot([AB, (A, C), BC])}),
    ("ends", "is_still", {"lot": lambda: Lot(RULES), "tree": lambda: ("f", C)}),
    ("ends", "ends", {"lot": lambda: Lot(RULES), "tree": lambda: TREE, "limit": lambda: 2}),
    ("ends", "least_split", {"lot": lambda: Lot(RULES)}),
    ("likeness", "leads_same", {"one": lambda: Lot(RULES), "other": lambda: Lot([AB, (("f", A), C), BC])}),
    ("likeness", "leads_same", {"one": lambda: Lot([AB, BC, (A, C)]), "other": lambda: Lot([AB, BC])}),
    ("likeness", "is_unlike", {"one": lambda: Lot([AB]), "other": lambda: Lot([]),
                               "value": lambda: (0, 0, [(A, A), (B, B)])}),
    ("likeness", "spared", {"lot": lambda: Lot(RULES), "number": lambda: 1}),
    ("likeness", "spared", {"lot": lambda: Lot(RULES + [(A, C)]), "number": lambda: 3}),
    ("likeness", "trimmed", {"lot": lambda: Lot(RULES + [(A, C)])}),
    ("equals", "least_bridge", {"lot": lambda: Lot(RULES), "tree": lambda: ("f", C), "other": lambda: A}),
    ("equals", "equal", {"lot": lambda: Lot(RULES), "tree": lambda: ("f", C), "other": lambda: A}),
    ("equals", "equal", {"lot": lambda: Lot(RULES), "tree": lambda: TREE, "other": lambda: Z}),
    ("equals", "is_bridge", {"lot": lambda: Lot([AB]), "tree": lambda: B, "other": lambda: A,
                             "value": lambda: [((), 0, False)]}),
    ("equals", "is_parting", {"lot": lambda: Lot([AB]), "tree": lambda: Z, "other": lambda: A,
                              "value": lambda: [[Z], [B, A]]}),
    ("equals", "classes", {"lot": lambda: Lot(RULES)}),
    ("settled", "settled", {"lot": lambda: Lot(RULES)}),
    ("settled", "least_equal", {"lot": lambda: Lot(RULES), "tree": lambda: TREE}),
    ("settled", "same_equalities", {"one": lambda: Lot([AB, BC]), "other": lambda: Lot([(C, A), BC])}),
    ("still", "still_count", {"lot": lambda: Lot([AB]), "signs": lambda: list(SIGNS), "size": lambda: 4}),
    ("still", "still_trees", {"lot": lambda: Lot([AB]), "signs": lambda: list(SIGNS), "most": lambda: 4}),
    ("text", "write_tree", {"tree": lambda: TREE}),
    ("text", "write_lot", {"lot": lambda: Lot(RULES)}),
    ("text", "read_tree", {"text": lambda: "f(a,b)"}),
    ("text", "read_lot", {"text": lambda: "a -> b\nb -> c"}),
]
GENERATORS = ("places", "steps", "still_trees")
PASSED_BY_NAME = ("limit",)


def found(file, name):
    return getattr(importlib.import_module("graftrules." + file), name)


def called(file, name, *values, **named):
    told = found(file, name)(*values, **named)
    return list(told) if name in GENERATORS else told


def parameters(made):
    """Return the parameters of a function or a class, without the object itself."""
    if inspect.isclass(made) and "__init__" not in vars(made):
        return "()"
    return str(inspect.signature(made)).replace("(self, ", "(").replace("(self)", "()")


def lists_in(value):
    """List all lists within a value, the value itself too, if it is one."""
    if not isinstance(value, (list, tuple)):
        return []
    return ([value] if isinstance(value, list) else []) + [inner for thing in value for inner in lists_in(thing)]


def shown(value):
    """Return a copy of a value that shows what is within it."""
    if isinstance(value, Lot):
        return "lot", copy.deepcopy(value.rules())
    return copy.deepcopy(value)


class TestInterface(unittest.TestCase):
    def test_names_and_parameters(self):
        for file, names in INTERFACE.items():
            for name, expected in names.items():
                made = found(file, name)
                self.assertEqual(made.__module__, "graftrules." + file)
                self.assertEqual(made.__name__, name)
                self.assertEqual(parameters(made), expected, name)

    def test_methods(self):
        for made, names in METHODS.items():
            for name, expected in names.items():
                self.assertEqual(parameters(vars(made)[name]), expected, (made, name))
        self.assertIsInstance(vars(Wood)["tree"], property)

    def test_errors(self):
        self.assertEqual(TreeError.__bases__, (ValueError,))
        for name in INTERFACE["errors"]:
            self.assertEqual(found("errors", name).__bases__, (TreeError,))
        others = [name for name, made in vars(errors).items() if inspect.isclass(made) and name != "TreeError"]
        self.assertEqual(sorted(others), sorted(INTERFACE["errors"]))

    def test_each_function_is_called_here(self):
        names = {name for told in INTERFACE.values() for name in told}
        self.assertEqual(names - {name for _, name, _ in CALLS} - set(INTERFACE["errors"]), {"Lot", "Machine", "Wood"})


class TestCalls(unittest.TestCase):
    def test_by_position_and_by_name_in_any_order(self):
        for file, name, makers in CALLS:
            values = [make() for word, make in makers.items() if word not in PASSED_BY_NAME]
            rest = {word: make() for word, make in makers.items() if word in PASSED_BY_NAME}
            expected = shown(called(file, name, *values, **rest))
            for words in itertools.permutations(makers):
                told = called(file, name, **{word: makers[word]() for word in words})
                self.assertEqual(shown(told), expected, (name, words))
            for many in range(len(values)):
                named = {word: makers[word]() for word in reversed(list(makers)[many:])}
                self.assertEqual(shown(called(file, name, *values[:many], **named)), expected)

    def test_arguments_stay(self):
        for file, name, makers in CALLS:
            named = {word: make() for word, make in makers.items()}
            before = {word: shown(value) for word, value in named.items()}
            called(file, name, **named)
            self.assertEqual({word: shown(value) for word, value in named.items()}, before, name)

    def test_returned_lists_are_new(self):
        for file, name, makers in CALLS:
            named = {word: make() for word, make in makers.items()}
            first, second = called(file, name, **named), called(file, name, **named)
            expected = shown(first)
            lists = [told for value in [first, second] + list(named.values()) for told in lists_in(value)]
            self.assertEqual(len({id(told) for told in lists}), len(lists), name)
            for told in lists_in(first):
                told.clear()
            self.assertEqual(shown(second), expected, name)
            self.assertEqual(shown(called(file, name, **named)), expected, name)

    def test_truths_are_told_as_such(self):
        for file, name, makers in CALLS:
            if name.startswith("is_") or name == "same_equalities":
                self.assertIs(called(file, name, **{word: make() for word, make in makers.items()}), True)

    def test_any_value_changes_nothing(self):
        for value in any_values():
            before = copy.deepcopy(value)
            for file, name, makers in CALLS:
                if "value" in makers and name != "is_tree":
                    named = {word: make() for word, make in makers.items()}
                    named["value"] = value
                    self.assertIn(called(file, name, **named), (True, False))
            self.assertIs(found("trees", "is_tree")(value), False)
            self.assertEqual(value, before)


class TestObjects(unittest.TestCase):
    def test_lots_keep_copies(self):
        rules = list(RULES)
        lot = Lot(rules)
        rules.append((C, D))
        rules[0] = (D, A)
        self.assertEqual(lot.rules(), RULES)
        lot.rules().clear()
        lot.parts().clear()
        self.assertEqual([lot.rules(), len(lot.parts())], [RULES, 4])

    def test_machines_keep_copies(self):
        signs = list(SIGNS)
        machine = Machine(limit=60, signs=signs, lot=Lot(RULES))
        before = machine.readings()
        signs.clear()
        self.assertEqual(machine.readings(), before)
        lists = lists_in([before, machine.readings(), machine.readings()])
        self.assertEqual(len({id(told) for told in lists}), len(lists))
        for told in lists_in(machine.readings()):
            told.clear()
        self.assertEqual([len(machine), machine.readings()], [len(before), before])
        numbers = [0]
        self.assertEqual(machine.after(numbers=numbers, name="f"), machine.after("f", [0]))
        self.assertEqual(numbers, [0])
        self.assertEqual(machine.how_many(size=3, part=C), machine.how_many(C, 3))

    def test_methods_of_which_no_result_is_told(self):
        wood = Wood(tree=TREE, lot=Lot(RULES))
        self.assertEqual(wood.mark(), 0)
        told = [wood.go(number=0, place=(0,)), wood.admit(rule=(C, Z)), wood.drop(number=0), wood.back(number=0)]
        self.assertEqual(told, [None] * 4)
        self.assertEqual([wood.tree, wood.lot().rules(), wood.done()], [TREE, RULES, []])

    def test_errors_change_no_state(self):
        wood = Wood(Lot(RULES), TREE)
        wood.go((0,), 0)
        wood.mark()
        calls = [
            (wood.go, ((0,), 0)), (wood.go, ((9,), 0)), (wood.admit, (AB,)), (wood.admit, (None,)), (wood.drop, (3,)),
            (wood.back, (1,)), (wood.lot().without, (3,)), (Lot, ([AB, AB],)),
            (wood.lot().__add__, (Lot([(letter, Z) for letter in LETTERS[:6]]),)),
        ]
        for call, values in calls:
            with self.assertRaises(TreeError):
                call(*values)
            self.assertEqual([wood.tree, wood.lot().rules(), wood.done()], [
                ("f", B, ("f", A)), RULES, [("go", (0,), 0)]])
        self.assertEqual(wood.mark(), 1)
        self.assertEqual(wood.undo(), ("go", (0,), 0))

    def test_machines_after_errors(self):
        lot = Lot(RULES)
        with self.assertRaises(TreeError):
            Machine(lot, SIGNS, limit=1)
        self.assertEqual([lot.rules(), len(Machine(lot, SIGNS))], [RULES, len(Machine(Lot(RULES), SIGNS))])
