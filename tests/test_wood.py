"""Tests of graftrules.wood: points 3 and 18."""

import copy
import random
import unittest

from graftrules import wood as wood_file
from graftrules.errors import BadLot, NoRule, NoStep, NothingDone, TreeError, UnknownMark
from graftrules.lots import Lot, steps
from graftrules.trees import size
from graftrules.ways import least_steps
from graftrules.wood import Wood
from tests.helper import A, AB, B, BC, C, CHAIN, D, LETTERS, SIGNS, WIDE, Z, any_values, lots_by, rule_by, tree_by

# The example of the document.
LOT = Lot([AB, (("f", B), A)])


def state(wood):
    return wood.tree, wood.lot(), wood.done()


def random_call(chance, wood):
    """Do some deed, mark or way back, which may also be one that cannot be done."""
    kind = chance.choice(["go", "go", "go", "admit", "drop", "undo", "mark", "back", "wrong"])
    if kind == "go":
        behind = list(steps(wood.lot(), wood.tree))
        if behind and size(wood.tree) < 300:
            wood.go(*chance.choice(behind)[:2])
    elif kind == "admit":
        wood.admit(rule_by(chance, SIGNS))
    elif kind == "drop":
        wood.drop(chance.randrange(9))
    elif kind == "undo":
        wood.undo()
    elif kind == "mark":
        wood.mark()
    elif kind == "back":
        wood.back(chance.randrange(4))
    else:
        wood.go((7,), 0)


class Told:
    """What a wood is to tell, with a copy of everything for each deed and each mark."""

    def __init__(self, lot, tree):
        self.states = [(tree, lot.rules(), [])]
        self.marks = []

    def now(self):
        tree, rules, done = self.states[-1]
        return tree, Lot(rules), done

    def lead(self, tree, rules, deed):
        self.states.append((tree, rules, self.states[-1][2] + [deed]))

    def undo(self):
        self.states.pop()
        self.marks = [many for many in self.marks if many <= len(self.states)]


class WoodCase(unittest.TestCase):
    def assertRaisesWith(self, error, told, ask, *values):
        """Check that a call raises an error with this value, and that nothing is changed by it."""
        wood = ask.__self__
        before = copy.deepcopy(state(wood)[0]), wood.lot().rules(), wood.done()
        with self.assertRaises(error) as caught:
            ask(*values)
        found = list(vars(caught.exception).values())
        self.assertEqual(len(found), 1)
        self.assertIs(found[0], told)
        self.assertEqual((wood.tree, wood.lot().rules(), wood.done()), before)


class TestInterface(unittest.TestCase):
    def test_defined_in_its_file(self):
        self.assertEqual(Wood.__module__, "graftrules.wood")
        self.assertEqual(wood_file.Wood, Wood)

    def test_methods_stand_in_the_class(self):
        for name in ("lot", "done", "go", "admit", "drop", "undo", "mark", "back", "left", "fork"):
            self.assertTrue(callable(vars(Wood)[name]))
        self.assertIsInstance(vars(Wood)["tree"], property)

    def test_names_of_arguments(self):
        wood = Wood(tree=A, lot=LOT)
        self.assertIsNone(wood.admit(rule=(B, C)))
        self.assertIsNone(wood.drop(number=1))
        self.assertIsNone(wood.go(number=0, place=()))
        self.assertEqual(wood.left(goal=C), 1)
        self.assertEqual(wood.mark(), 0)
        self.assertIsNone(wood.back(number=0))
        self.assertEqual(wood.done(), [("admit", BC), ("drop", 1), ("go", (), 0)])


class TestDeeds(WoodCase):
    def test_at_the_beginning(self):
        wood = Wood(LOT, ("f", A))
        self.assertEqual(state(wood), (("f", A), LOT, []))
        self.assertEqual(state(Wood(Lot([]), A)), (A, Lot([]), []))

    def test_each_kind(self):
        wood = Wood(LOT, ("f", A))
        self.assertIsNone(wood.go((0,), 0))
        self.assertEqual(state(wood), (("f", B), LOT, [("go", (0,), 0)]))
        self.assertIsNone(wood.admit((A, C)))
        self.assertEqual(wood.lot().rules(), LOT.rules() + [(A, C)])
        self.assertIsNone(wood.go((), 1))
        self.assertEqual(wood.tree, A)
        self.assertIsNone(wood.drop(0))
        self.assertEqual(wood.lot().rules(), [(("f", B), A), (A, C)])
        self.assertIsNone(wood.go((), 1))
        self.assertEqual(wood.tree, C)
        self.assertEqual(wood.done(), [
            ("go", (0,), 0), ("admit", (A, C)), ("go", (), 1), ("drop", 0), ("go", (), 1)])

    def test_undone_one_by_one(self):
        wood = Wood(LOT, ("f", A))
        states = [state(wood)]
        for deed in (("go", (0,), 0), ("admit", BC), ("go", (0,), 2), ("drop", 1), ("drop", 0), ("drop", 0), ("admit", AB)):
            getattr(wood, deed[0])(*deed[1:])
            states.append(state(wood))
        self.assertEqual([told[2][-1] for told in states[1:]], wood.done())
        self.assertEqual([len(told[1]) for told in states], [2, 2, 3, 3, 2, 1, 0, 1])
        for before in reversed(states[:-1]):
            last = wood.done()[-1]
            self.assertEqual(wood.undo(), last)
            self.assertEqual(state(wood), before)
        with self.assertRaises(NothingDone):
            wood.undo()
        self.assertEqual(state(wood), states[0])

    def test_undone_deeds_are_gone(self):
        wood = Wood(LOT, A)
        wood.go((), 0)
        self.assertEqual(wood.undo(), ("go", (), 0))
        wood.drop(1)
        self.assertEqual(wood.done(), [("drop", 1)])
        self.assertEqual(wood.undo(), ("drop", 1))
        self.assertEqual(state(wood), (A, LOT, []))
        self.assertRaises(NothingDone, wood.undo)
        wood.go((), 0)
        self.assertEqual(state(wood), (B, LOT, [("go", (), 0)]))

    def test_a_dropped_rule_comes_back_to_its_place(self):
        for number in range(8):
            wood = Wood(CHAIN, A)
            wood.drop(number)
            self.assertEqual(wood.lot(), CHAIN.without(number))
            wood.undo()
            self.assertEqual(wood.lot(), CHAIN)

    def test_steps_that_cannot_be_done(self):
        wood = Wood(LOT, ("g", ("f", A)))
        for deeds in range(3):
            for place, number in (((), 0), ((0,), 0), ((0, 0), 1), ((0, 0), 2), ((0, 0), -2), ((1,), 0), ((0, 0, 0), 0),
                                  ((0, 0), False), ((0, False), 0), ((False, 0), 0), ([0, 0], 0), ((0, 0), None),
                                  (0, 0), (None, 0), ((0, 0), "0"), ((0, 0), (0,)), ("00", 0), ((0, -1), 0)):
                if deeds == 0 or (place, number) not in [((0,), 0), ((0, 0), 0)]:
                    self.assertRaisesWith(NoStep, deeds, wood.go, place, number)
            wood.admit((LETTERS[deeds + 4], Z))
        for value in any_values():
            if value != (0, 0):
                self.assertRaisesWith(NoStep, 3, wood.go, value, 0)
            self.assertRaisesWith(NoStep, 3, wood.go, value, value)
            if value != 0 or isinstance(value, bool):
                self.assertRaisesWith(NoStep, 3, wood.go, (0, 0), value)
        wood.go((0, 0), 0)
        self.assertRaisesWith(NoStep, 4, wood.go, (0, 0), 0)
        wood.undo()
        wood.undo()
        self.assertRaisesWith(NoStep, 2, wood.go, (), 0)

    def test_steps_by_the_lot_now(self):
        wood = Wood(LOT, A)
        wood.drop(0)
        self.assertRaisesWith(NoStep, 1, wood.go, (), 0)
        self.assertRaisesWith(NoStep, 1, wood.go, (), 1)
        wood.admit((A, Z))
        wood.go((), 1)
        self.assertEqual(wood.tree, Z)

    def test_rules_that_are_none(self):
        wood = Wood(LOT, A)
        for number in (2, 3, 4):
            for rule in any_values() + [AB, (("f", B), A), (A, A), [A, B], (A, B, C), (A, ("f", ("f", ("f", ("f", B))))),
                                        (("f", A, A, A, ("f", A, A)), A), (A, ["b"]), (A,), A]:
                with self.assertRaises(BadLot) as caught:
                    wood.admit(rule)
                self.assertEqual([caught.exception.number, len(wood.lot()), len(wood.done())], [number, number, number - 2])
            wood.admit((LETTERS[number], D[:1] + (Z,)))

    def test_a_ninth_rule(self):
        wood = Wood(CHAIN, A)
        for rule in ((B, A), AB, None, (A, A)):
            self.assertRaisesWith(BadLot, 0, wood.admit, rule)
        wood.drop(3)
        wood.admit((B, A))
        self.assertRaisesWith(BadLot, 0, wood.admit, (Z, A))
        wood.drop(7)
        self.assertRaisesWith(BadLot, 7, wood.admit, AB)

    def test_too_many_told_parts(self):
        wood = Wood(WIDE.without(7), A)
        self.assertEqual(len(wood.lot().parts()), 24)
        self.assertRaisesWith(BadLot, 7, wood.admit, (("pa",), ("x",)))
        wood.admit((("pa",), ("rb",)))
        self.assertEqual(len(wood.lot()), 8)

    def test_numbers_of_no_rule(self):
        wood = Wood(LOT, A)
        for value in any_values() + [3, -3, (0,), [0]]:
            if value not in (0, 1) or isinstance(value, bool):
                self.assertRaisesWith(NoRule, value, wood.drop, value)
        self.assertRaisesWith(NoRule, 2, wood.drop, 2)
        wood.drop(1)
        self.assertRaisesWith(NoRule, 1, wood.drop, 1)
        wood.drop(0)
        self.assertRaisesWith(NoRule, 0, wood.drop, 0)

    def test_lots_that_were_told_stay(self):
        first = Lot(LOT.rules())
        wood = Wood(first, A)
        told = wood.lot()
        wood.admit(BC)
        second = wood.lot()
        wood.drop(0)
        wood.drop(0)
        self.assertEqual([told, first, second], [LOT, LOT, LOT + Lot([BC])])
        self.assertEqual(wood.lot().rules(), [BC])
        wood.lot().rules().clear()
        self.assertEqual(wood.lot().rules(), [BC])

    def test_returned_lists_are_new(self):
        wood = Wood(LOT, A)
        wood.go((), 0)
        self.assertIsNot(wood.done(), wood.done())
        wood.done().clear()
        self.assertEqual(wood.done(), [("go", (), 0)])
        self.assertEqual(wood.undo(), ("go", (), 0))

    def test_tree_is_only_read(self):
        wood = Wood(LOT, A)
        with self.assertRaises(AttributeError):
            wood.tree = B
        self.assertEqual(wood.tree, A)

    def test_some_hundred_deeds(self):
        wood = Wood(Lot([(A, ("f", A, B)), (B, A)]), A)
        trees = [wood.tree]
        for number in range(200):
            wood.go((0,) * number, 0)
            trees.append(wood.tree)
            wood.go((0,) * number + (1,), 1)
            trees.append(wood.tree)
        self.assertEqual([size(wood.tree), len(wood.done())], [401, 400])
        self.assertRaises(NoStep, wood.go, (), 0)
        for tree in trees[-2::-1]:
            wood.undo()
            self.assertEqual(wood.tree, tree)
        self.assertRaises(NothingDone, wood.undo)

    def test_trees_of_very_many_levels(self):
        wood = Wood(Lot([(A, ("g", ("g", ("g", A))))]), A)
        for number in range(700):
            wood.go((0,) * (3 * number), 0)
        self.assertEqual([size(wood.tree), len(wood.done())], [2101, 700])
        self.assertRaises(NoStep, wood.go, (0,) * 2099, 0)
        for _ in range(700):
            wood.undo()
        self.assertEqual(wood.tree, A)


class TestMarks(WoodCase):
    def test_numbers(self):
        wood = Wood(LOT, A)
        self.assertEqual([wood.mark(), wood.mark(), wood.mark()], [0, 1, 2])
        wood.go((), 0)
        self.assertEqual([wood.mark(), wood.mark()], [3, 4])
        wood.back(1)
        self.assertEqual([wood.mark(), wood.mark()], [2, 3])

    def test_ways_back(self):
        wood = Wood(LOT, ("f", A))
        states = []
        for deed in (("go", (0,), 0), ("admit", BC), ("drop", 0), ("go", (), 0), ("drop", 0)):
            self.assertEqual(wood.mark(), len(states))
            states.append(state(wood))
            getattr(wood, deed[0])(*deed[1:])
        for number in reversed(range(len(states))):
            self.assertIsNone(wood.back(number))
            self.assertEqual(state(wood), states[number])
            self.assertIsNone(wood.back(number))
            self.assertEqual(state(wood), states[number])
            self.assertRaisesWith(UnknownMark, number + 1, wood.back, number + 1)

    def test_later_marks_end(self):
        wood = Wood(LOT, A)
        for number in range(4):
            self.assertEqual(wood.mark(), number)
        wood.back(2)
        self.assertRaisesWith(UnknownMark, 3, wood.back, 3)
        wood.back(2)
        wood.back(0)
        self.assertRaisesWith(UnknownMark, 1, wood.back, 1)
        wood.go((), 0)
        self.assertEqual(wood.mark(), 1)
        wood.back(0)
        self.assertEqual(wood.tree, A)
        self.assertRaisesWith(UnknownMark, 1, wood.back, 1)

    def test_marks_that_end_with_an_undone_deed(self):
        wood = Wood(LOT, A)
        wood.mark()
        wood.go((), 0)
        wood.mark()
        wood.mark()
        wood.drop(0)
        wood.mark()
        wood.undo()
        self.assertRaisesWith(UnknownMark, 3, wood.back, 3)
        # The marks ahead of the undone deed stay.
        fork = wood.fork()
        fork.back(2)
        self.assertEqual(fork.done(), [("go", (), 0)])
        wood.undo()
        self.assertRaisesWith(UnknownMark, 1, wood.back, 1)
        wood.go((), 0)
        self.assertRaisesWith(UnknownMark, 1, wood.back, 1)
        self.assertEqual(wood.mark(), 1)
        wood.back(0)
        self.assertEqual(state(wood), (A, LOT, []))

    def test_a_mark_stays_while_deeds_behind_it_are_undone(self):
        wood = Wood(LOT, A)
        wood.go((), 0)
        wood.mark()
        for _ in range(3):
            wood.drop(1)
            wood.undo()
        wood.drop(1)
        wood.back(0)
        self.assertEqual(state(wood), (B, LOT, [("go", (), 0)]))

    def test_numbers_of_no_mark(self):
        wood = Wood(LOT, A)
        for marks in range(3):
            for value in any_values() + [3, -3, marks, -marks - 1, [0], (0,)]:
                if isinstance(value, bool) or not isinstance(value, int) or not 0 <= value < marks:
                    self.assertRaisesWith(UnknownMark, value, wood.back, value)
            wood.drop(0) if marks < 2 else wood.admit(BC)
            wood.mark()
        wood.back(1)
        self.assertEqual(len(wood.done()), 2)


class TestLeft(WoodCase):
    def test_by_the_lot_now(self):
        wood = Wood(LOT, ("f", A))
        self.assertEqual([wood.left(B), wood.left(A), wood.left(("f", A)), wood.left(C)], [3, 2, 0, None])
        wood.admit(BC)
        self.assertEqual([wood.left(C), wood.left(("f", C))], [4, 2])
        wood.drop(1)
        self.assertEqual([wood.left(C), wood.left(("f", C))], [None, 2])
        wood.go((0,), 0)
        self.assertEqual(wood.left(("f", C)), 1)
        wood.undo()
        wood.undo()
        self.assertEqual([wood.left(B), wood.left(C)], [3, 4])
        wood.undo()
        self.assertEqual([wood.left(B), wood.left(C)], [3, None])
        self.assertEqual(wood.done(), [])

    def test_many(self):
        chance = random.Random(111)
        for lot in lots_by(112, 40, 5, SIGNS):
            wood = Wood(lot, tree_by(chance, 3, SIGNS))
            for _ in range(6):
                try:
                    random_call(chance, wood)
                except TreeError:
                    pass
                goal = tree_by(chance, 2, SIGNS)
                if size(wood.tree) <= 40:
                    self.assertEqual(wood.left(goal), least_steps(wood.lot(), wood.tree, goal))
                    self.assertEqual(wood.left(wood.tree), 0)

    def test_trees_that_were_too_great(self):
        wood = Wood(Lot([(A, ("f", A, A, A, A)), (A, B)]), A)
        for place in [()] + [(k,) for k in range(4)] + [(k, m) for k in range(3) for m in range(4)]:
            wood.go(place, 0)
        self.assertEqual(size(wood.tree), 69)
        while size(wood.tree) > 40:
            wood.undo()
        self.assertEqual(wood.left(wood.tree), 0)
        self.assertIsNone(wood.left(B))


class TestFork(WoodCase):
    def test_stands_as_the_other_one(self):
        wood = Wood(LOT, ("f", A))
        wood.mark()
        wood.go((0,), 0)
        wood.mark()
        wood.admit(BC)
        fork = wood.fork()
        self.assertIsInstance(fork, Wood)
        self.assertIsNot(fork, wood)
        self.assertEqual(state(fork), state(wood))
        self.assertEqual([fork.mark(), wood.mark()], [2, 2])
        self.assertEqual([fork.undo(), fork.undo()], [("admit", BC), ("go", (0,), 0)])
        self.assertRaisesWith(UnknownMark, 1, fork.back, 1)
        fork.back(0)
        wood.back(1)
        self.assertEqual(state(wood), (("f", B), LOT, [("go", (0,), 0)]))
        self.assertEqual(state(fork), (("f", A), LOT, []))

    def test_go_on_by_themselves(self):
        wood = Wood(LOT, ("f", A))
        wood.go((0,), 0)
        fork = wood.fork()
        before = state(fork)
        wood.undo()
        wood.drop(0)
        wood.mark()
        wood.mark()
        self.assertEqual(state(fork), before)
        self.assertRaisesWith(UnknownMark, 0, fork.back, 0)
        after = state(wood)
        fork.go((), 1)
        fork.admit(BC)
        fork.undo()
        fork.undo()
        fork.undo()
        self.assertEqual(state(wood), after)
        self.assertEqual(state(fork), (("f", A), LOT, []))
        self.assertRaises(NothingDone, fork.undo)
        wood.back(1)
        self.assertEqual(wood.undo(), ("drop", 0))

    def test_forks_of_forks(self):
        wood = Wood(LOT, A)
        woods = [wood]
        for number in range(5):
            woods.append(woods[-1].fork())
            woods[-1].admit((LETTERS[number + 2], A))
        self.assertEqual([len(told.done()) for told in woods], [0, 1, 2, 3, 4, 5])
        self.assertEqual([len(told.lot()) for told in woods], [2, 3, 4, 5, 6, 7])


class TestManyCalls(WoodCase):
    def lead(self, chance, wood, told):
        """Make a call and keep what it is to lead to, from the definition."""
        tree, lot, done = told.now()
        kind = chance.choice(["go", "go", "admit", "drop", "undo", "mark", "back"])
        if kind == "go":
            behind = list(steps(lot, tree))
            if behind and size(tree) < 200:
                place, number, other = chance.choice(behind)
                self.assertIsNone(wood.go(place, number))
                told.lead(other, lot.rules(), ("go", place, number))
        elif kind == "admit":
            rule = rule_by(chance, SIGNS)
            try:
                rules = Lot(lot.rules() + [rule]).rules()
            except BadLot as error:
                self.assertRaisesWith(BadLot, error.number, wood.admit, rule)
            else:
                self.assertIsNone(wood.admit(rule))
                told.lead(tree, rules, ("admit", rule))
        elif kind == "drop" and len(lot):
            number = chance.randrange(len(lot))
            self.assertIsNone(wood.drop(number))
            told.lead(tree, lot.rules()[:number] + lot.rules()[number + 1:], ("drop", number))
        elif kind == "undo" and done:
            self.assertEqual(wood.undo(), done[-1])
            told.undo()
        elif kind == "mark":
            self.assertEqual(wood.mark(), len(told.marks))
            told.marks.append(len(told.states))
        elif kind == "back":
            number = chance.randrange(len(told.marks) + 1)
            if number == len(told.marks):
                self.assertRaisesWith(UnknownMark, number, wood.back, number)
            else:
                self.assertIsNone(wood.back(number))
                del told.marks[number + 1:]
                del told.states[told.marks[number]:]

    def test_by_definition(self):
        chance = random.Random(113)
        longest = 0
        for lot in lots_by(114, 30, 4, SIGNS):
            tree = tree_by(chance, 3, SIGNS)
            woods = [(Wood(lot, tree), Told(lot, tree))]
            for _ in range(120):
                at = chance.randrange(len(woods))
                wood, told = woods[at]
                if chance.random() < 0.03 and len(woods) < 4:
                    other = Told(lot, tree)
                    other.states, other.marks = list(told.states), list(told.marks)
                    woods.append((wood.fork(), other))
                self.lead(chance, wood, told)
                longest = max(longest, len(wood.done()))
                for one, two in woods:
                    self.assertEqual(state(one), two.now())
        self.assertGreater(longest, 10)
