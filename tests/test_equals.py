"""Tests of graftrules.equals: points 3, 7, 15 and 16."""

import copy
import itertools
import random
import unittest

from graftrules import equals
from graftrules.equals import classes, equal, is_bridge, is_parting, least_bridge
from graftrules.errors import TooLong
from graftrules.lots import Lot
from graftrules.trees import part_at, places, put
from tests.helper import (A, AB, B, BC, C, CHAIN, D, GROWING, LETTERS, SIGNS, WIDE, WILD, Z, any_values, branches,
                          forty, fours, in_order, least_equals, lots_by, near_by, parts_told, signs_of, tree_by, trees_of)

MANY = lots_by(81, 120, 5, SIGNS)
# The example of the document.
LOT = Lot([AB, (("f", B), C)])


def across(lot, tree):
    """List the tuples (step of a bridge, tree behind it) for all steps that can be done in a tree."""
    found = []
    for place, part in places(tree):
        for number, (left, right) in enumerate(lot.rules()):
            if part == left:
                found.append(((place, number, True), put(tree, place, right)))
            if part == right:
                found.append(((place, number, False), put(tree, place, left)))
    return found


def near_trees(lot, tree, most):
    """Return the dict of the trees to which bridges of at most so many steps lead, with their least numbers."""
    return near_by(tree, most, lambda now: [other for _, other in across(lot, now)])


def is_parting_by_definition(lot, tree, other, lists):
    told = [part for members in lists for part in members]
    if [] in lists or sorted(told) != sorted(parts_told(lot, tree, other)):
        return False
    at = {part: number for number, members in enumerate(lists) for part in members}
    likes = [(one, two) for one in told for two in told if one[0] == two[0] and len(one) == len(two)
             and all(at[first] == at[second] for first, second in zip(one[1:], two[1:]))]
    return at[tree] != at[other] and all(at[one] == at[two] for one, two in likes + lot.rules())


def all_lists_of_classes(parts):
    """Yield all ways to put some parts into classes."""
    if not parts:
        yield []
        return
    for lists in all_lists_of_classes(parts[1:]):
        yield [parts[:1]] + lists
        for at in range(len(lists)):
            yield lists[:at] + [parts[:1] + lists[at]] + lists[at + 1:]


class EqualsCase(unittest.TestCase):
    def assertBridge(self, lot, tree, other, number):
        self.assertEqual(least_bridge(lot, tree, other), number)
        word, bridge = equal(lot, tree, other)
        self.assertEqual([word, len(bridge)], ["yes", number])
        self.assertGoes(lot, tree, other, bridge)
        self.assertIs(is_bridge(lot, tree, other, bridge), True)

    def assertGoes(self, lot, tree, other, bridge):
        self.assertIsInstance(bridge, list)
        for step in bridge:
            self.assertIsInstance(step, tuple)
            self.assertIsInstance(step[2], bool)
            behind = dict(across(lot, tree))
            self.assertIn(step, behind)
            tree = behind[step]
        self.assertEqual(tree, other)

    def assertParted(self, lot, tree, other):
        self.assertIsNone(least_bridge(lot, tree, other))
        word, parting = equal(lot, tree, other)
        self.assertEqual(word, "no")
        self.assertTrue(is_parting_by_definition(lot, tree, other, parting))
        self.assertIs(is_parting(lot, tree, other, parting), True)


class TestInterface(unittest.TestCase):
    def test_defined_in_its_file(self):
        for name in ("least_bridge", "equal", "is_bridge", "is_parting", "classes"):
            self.assertEqual(getattr(equals, name).__module__, "graftrules.equals")

    def test_names_of_arguments(self):
        lot = Lot([AB])
        self.assertEqual(least_bridge(other=A, tree=B, lot=lot), 1)
        self.assertEqual(equal(other=A, tree=B, lot=lot), ("yes", [((), 0, False)]))
        self.assertIs(is_bridge(value=[((), 0, False)], other=A, tree=B, lot=lot), True)
        self.assertIs(is_parting(value=[[A, B], [C]], other=A, tree=C, lot=lot), True)
        self.assertEqual(classes(lot=lot), [[A, B]])


class TestLeastBridge(EqualsCase):
    def test_a_tree_to_itself(self):
        for lot in (Lot([]), LOT, GROWING, WIDE):
            for tree in (A, forty(A, B), ("x", ("y",))):
                self.assertBridge(lot, tree, tree, 0)

    def test_rules_both_ways(self):
        self.assertBridge(LOT, A, B, 1)
        self.assertBridge(LOT, B, A, 1)
        self.assertBridge(LOT, C, ("f", A), 2)
        self.assertBridge(LOT, ("f", A), C, 2)
        self.assertBridge(LOT, ("h", C, A), ("h", ("f", A), B), 3)
        self.assertEqual(equal(LOT, C, ("f", A)), ("yes", [((), 1, False), ((0,), 0, False)]))

    def test_up_and_down(self):
        lot = Lot([(A, C), (B, C), (B, D), (Z, D)])
        self.assertBridge(lot, A, Z, 4)
        self.assertEqual(equal(lot, A, Z)[1], [((), 0, True), ((), 1, False), ((), 2, True), ((), 3, False)])
        self.assertBridge(lot, ("f", A, D), ("f", Z, B), 5)

    def test_through_greater_trees(self):
        lot = Lot([(A, ("h", B, ("g", B))), (B, C), (Z, ("h", C, ("g", C)))])
        self.assertBridge(lot, A, Z, 4)
        self.assertBridge(lot, fours(A), fours(Z), 16)

    def test_none(self):
        for lot, tree, other in ((Lot([]), A, B), (LOT, A, C), (LOT, ("f", A), ("g", A)), (LOT, ("f", A), ("f", A, A)),
                                 (LOT, ("f", C), ("f", A)), (GROWING, A, ("x",)), (WIDE, ("ra",), ("rh", ("ra",)))):
            self.assertParted(lot, tree, other)
            self.assertParted(lot, other, tree)

    def test_all_trees_that_are_near(self):
        chance = random.Random(82)
        for lot in MANY:
            tree = tree_by(chance, 3, SIGNS)
            for other, number in list(near_trees(lot, tree, 3).items())[:40]:
                self.assertBridge(lot, tree, other, number)

    def test_all_trees_of_few_nodes(self):
        chance = random.Random(83)
        words = []
        for lot in lots_by(84, 60, 4, [("a", 0), ("b", 0), ("f", 1), ("h", 2)]):
            trees = [tree for row in trees_of(signs_of(lot) or SIGNS, 5) for tree in row]
            told = in_order(trees + parts_told(lot))
            least = least_equals(lot, told)
            for tree, other in [(chance.choice(trees), chance.choice(trees)) for _ in range(8)]:
                words.append(equal(lot, tree, other)[0])
                if least[tree] == least[other]:
                    self.assertBridge(lot, tree, other, least_bridge(lot, tree, other))
                else:
                    self.assertParted(lot, tree, other)
        self.assertGreater(min(words.count("yes"), words.count("no")), 60)

    def test_great_numbers(self):
        great = Lot([(fours(LETTERS[k + 1]), LETTERS[k]) for k in range(7)] + [(LETTERS[7], fours(Z))])
        number = (4 ** 8 - 1) // 3
        goal = Z
        for _ in range(8):
            goal = fours(goal)
        self.assertEqual(least_bridge(great, A, goal), number)
        with self.assertRaises(TooLong) as caught:
            equal(great, goal, A)
        self.assertEqual(caught.exception.number, number)
        self.assertBridge(great, LETTERS[5], fours(fours(fours(Z))), 21)

    def test_growing_and_wide_lots(self):
        self.assertEqual(least_bridge(GROWING, A, B), 1)
        self.assertBridge(GROWING, forty(A, B), forty(B, A), 28)
        self.assertParted(GROWING, forty(A, B), forty(("x",), B))
        tree = ("f",) + (("pf", ("pg", ("ph", ("qa",))), ("pc",), ("pc",)),) * 4
        self.assertBridge(WIDE, tree, ("f",) + (("rh", ("ra",)),) * 4, 16)
        self.assertBridge(WIDE, ("f",) + (("rh", ("ra",)),) * 4, tree, 16)
        self.assertParted(WIDE, tree, tree[:4] + (("ra",),))
        for one, other in itertools.product(WILD.parts()[:12], WILD.parts()[-6:]):
            self.assertEqual(least_bridge(WILD, one, other), least_bridge(WILD, other, one))


class TestEqual(EqualsCase):
    def test_two_hundred_steps_and_more(self):
        turned = Lot([rule if number % 2 else rule[::-1] for number, rule in enumerate(CHAIN.rules())])
        tree, other = branches(25, 4, A), branches(25, 4, LETTERS[8])
        for lot in (CHAIN, CHAIN.turned(), turned):
            self.assertBridge(lot, tree, other, 200)
            self.assertBridge(lot, other, tree, 200)
            for one, two in ((tree, other), (other, tree)):
                place = next(place for place, part in places(one) if part in (A, LETTERS[8]))
                more = put(one, place, ("f", part_at(one, place), B)), put(two, place, ("f", part_at(two, place), C))
                self.assertEqual(least_bridge(lot, *more), 201)
                with self.assertRaises(TooLong) as caught:
                    equal(lot, *more)
                self.assertEqual(caught.exception.number, 201)

    def test_partings_of_many_lots(self):
        chance = random.Random(85)
        for lot in MANY:
            for _ in range(3):
                tree, other = tree_by(chance, 3, SIGNS), tree_by(chance, 3, SIGNS)
                if least_bridge(lot, tree, other) is None:
                    self.assertParted(lot, tree, other)

    def test_returned_lists_are_new(self):
        for tree, other in ((C, ("f", A)), (C, A)):
            before = copy.deepcopy(equal(LOT, tree, other))
            first, second = equal(LOT, tree, other)[1], equal(LOT, tree, other)[1]
            self.assertIsNot(first, second)
            lists = [thing for thing in first + second if isinstance(thing, list)]
            self.assertEqual(len({id(thing) for thing in lists}), len(lists))
            for thing in lists + [first]:
                thing.clear()
            self.assertEqual(equal(Lot(copy.deepcopy(LOT.rules())), copy.deepcopy(tree), copy.deepcopy(other)), before)
        self.assertEqual(LOT.rules(), [AB, (("f", B), C)])


class TestIsBridge(EqualsCase):
    def test_bridges_of_any_length(self):
        there = [((), 0, True), ((), 0, False)]
        for many in (0, 1, 50, 101, 300):
            self.assertIs(is_bridge(LOT, A, A, there * many), True)
            self.assertIs(is_bridge(LOT, A, B, there * many), False)
            self.assertIs(is_bridge(LOT, A, B, there * many + there[:1]), True)
            self.assertIs(is_bridge(LOT, B, A, there[1:] + there * many), True)

    def test_two_hundred_and_two_steps_there_and_back(self):
        tree, other = branches(25, 4, A), branches(25, 4, LETTERS[8])
        bridge = equal(CHAIN, tree, other)[1]
        back = [(place, number, not forward) for place, number, forward in reversed(bridge)]
        self.assertIs(is_bridge(CHAIN, other, tree, back), True)
        self.assertEqual(len(bridge[:101] + back[99:]), 202)
        self.assertIs(is_bridge(CHAIN, tree, tree, bridge[:101] + back[99:]), True)
        self.assertIs(is_bridge(CHAIN, tree, tree, bridge + back), True)
        self.assertIs(is_bridge(CHAIN, tree, tree, bridge[:101] + back[100:]), False)

    def test_each_step(self):
        for lot in (LOT, GROWING, Lot([AB, (B, A)])):
            for tree in (A, ("f", A), ("f", B, ("f", A)), C, ("h", C, Z)):
                told = dict(across(lot, tree))
                for place in [place for place, _ in places(tree)] + [(5,), (0, 0, 0, 0)]:
                    for number, forward in itertools.product(range(len(lot) + 1), (True, False)):
                        step = (place, number, forward)
                        for goal in [A, B, C, tree] + list(told.values()):
                            self.assertIs(is_bridge(lot, tree, goal, [step]), told.get(step) == goal)

    def test_trees_that_become_very_great(self):
        lot = Lot([(A, ("f", A, A))])
        steps = [((0,) * level, 0, True) for level in range(60)]
        back = [(place, number, False) for place, number, _ in reversed(steps)]
        self.assertIs(is_bridge(lot, A, A, steps + back), True)
        self.assertIs(is_bridge(lot, A, A, steps), False)
        self.assertIs(is_bridge(lot, A, ("f", ("f", A, A), A), steps[:2]), True)

    def test_near_to_one(self):
        self.assertIs(is_bridge(LOT, ("g", C), ("g", ("f", B)), [((0,), 1, False)]), True)
        near = [
            [((0,), 1, True)], [((0,), 1)], [((0,), 1, 0)], [((0,), 1, 1)], [((0,), 1, None)], [((0,), True, False)],
            [((False,), 1, False)], [([0], 1, False)], [[(0,), 1, False]], (((0,), 1, False),), ((0,), 1, False),
            [((0,), 1, False, False)], [((0,), 1, [])], [((0,), 1, "")], [((0,), -1, False)], [((0,), 3, False)],
            [((0,), 2, False)], [((), 1, False)], [(0, 1, False)], [((1,), 1, False)], [((0,), 0, False)], [],
            {((0,), 1, False): 1}, {0: ((0,), 1, False)}, [((0,), 1, False), None], [((0,), 1, False)] * 2, None,
            [[((0,), 1, False)]], [((0,), 1, ())], [((0, 0), 1, False)], "", "yes", ("yes", [((0,), 1, False)]),
        ]
        for value in near:
            before = copy.deepcopy(value)
            self.assertIs(is_bridge(LOT, ("g", C), ("g", ("f", B)), value), False, value)
            self.assertEqual(value, before)

    def test_truths(self):
        self.assertIs(is_bridge(LOT, B, A, [((), 0, False)]), True)
        self.assertIs(is_bridge(LOT, B, A, [((), False, False)]), False)
        self.assertIs(is_bridge(LOT, B, A, [((), 0, 0)]), False)
        self.assertIs(is_bridge(LOT, A, B, [((), 0, 1)]), False)
        self.assertIs(is_bridge(LOT, ("f", A, B), ("f", A, A), [((1,), 0, False)]), True)
        self.assertIs(is_bridge(LOT, ("f", A, B), ("f", A, A), [((True,), 0, False)]), False)

    def test_any_value(self):
        for value in any_values():
            self.assertIs(is_bridge(LOT, A, B, value), False, value)
            self.assertIs(is_bridge(LOT, A, A, value), value == [] and isinstance(value, list), value)
            for wrong in ([value], [((), 0, True), value], [((), 0, True, value)], ([((), 0, True)], value)):
                self.assertIs(is_bridge(LOT, A, B, wrong), False, wrong)
            self.assertIs(is_bridge(LOT, A, B, [(value, 0, True)]), value == () and isinstance(value, tuple), value)
            self.assertIs(is_bridge(LOT, A, B, [((), value, True)]), value == 0 and value is not False, value)
            self.assertIs(is_bridge(LOT, A, B, [((), 0, value)]), value is True, value)
            self.assertIs(is_bridge(LOT, B, A, [((), 0, value)]), value is False, value)


class TestIsParting(EqualsCase):
    def test_all_ways_to_put_parts_into_classes(self):
        answers = []
        for lot, tree, other in ((LOT, A, C), (Lot([(("f", A), B)]), ("f", C), D), (Lot([]), ("f", A), ("f", B)),
                                 (Lot([AB]), ("f", A, C), ("f", B, D)), (Lot([AB]), ("f", A, C), ("f", B, C))):
            for lists in all_lists_of_classes(parts_told(lot, tree, other)):
                expected = is_parting_by_definition(lot, tree, other, lists)
                self.assertIs(is_parting(lot, tree, other, lists), expected, (lot.rules(), lists))
                self.assertIs(is_parting(lot, other, tree, lists), expected)
                answers.append(expected)
        self.assertGreater(min(answers.count(True), answers.count(False)), 20)

    def test_in_any_order(self):
        chance = random.Random(86)
        for lot, tree, other in ((LOT, A, C), (GROWING, forty(A, B), forty(("x",), B)), (WIDE, ("ra",), ("rb",))):
            parting = equal(lot, tree, other)[1]
            for _ in range(10):
                mixed = [chance.sample(members, len(members)) for members in chance.sample(parting, len(parting))]
                before = copy.deepcopy(mixed)
                self.assertIs(is_parting(lot, tree, other, mixed), True)
                self.assertEqual(mixed, before)

    def test_a_part_more_or_less(self):
        for lot, tree, other in ((LOT, A, C), (LOT, ("g", A), ("g", C)), (WIDE, ("ra",), ("rb",))):
            parting = equal(lot, tree, other)[1]
            for at, members in enumerate(parting):
                for k, part in enumerate(members):
                    less = parting[:at] + [members[:k] + members[k + 1:]] + parting[at + 1:]
                    self.assertIs(is_parting(lot, tree, other, less), False)
                    self.assertIs(is_parting(lot, tree, other, [thing for thing in less if thing]), False)
                    self.assertIs(is_parting(lot, tree, other, parting + [[part]]), False)
                    self.assertIs(is_parting(lot, tree, other, parting[:at] + [members + [part]] + parting[at + 1:]), False)
                    apart = [[part]] + [thing for thing in less if thing]
                    expected = is_parting_by_definition(lot, tree, other, apart)
                    self.assertIs(is_parting(lot, tree, other, apart), expected)
                self.assertIs(is_parting(lot, tree, other, parting[:at] + parting[at + 1:]), False)
                self.assertIs(is_parting(lot, tree, other, parting[:at] + [[]] + parting[at:]), False)
                self.assertIs(is_parting(lot, tree, other, parting[:at] + [members + [("y",)]] + parting[at + 1:]), False)
            self.assertIs(is_parting(lot, tree, other, parting + [[("y",)]]), False)
            self.assertIs(is_parting(lot, tree, other, parting + [[]]), False)

    def test_two_classes_put_together(self):
        parting = equal(LOT, A, C)[1]
        self.assertEqual(len(parting), 2)
        self.assertIs(is_parting(LOT, A, C, [parting[0] + parting[1]]), False)
        parting = equal(LOT, ("g", Z), A)[1]
        answers = [is_parting(LOT, ("g", Z), A, [parting[i] + parting[k]] + [
            members for at, members in enumerate(parting) if at not in (i, k)])
            for i, k in itertools.combinations(range(len(parting)), 2)]
        self.assertEqual([len(parting), answers.count(True)], [4, 5])

    def test_trees_that_are_equal(self):
        self.assertIs(is_parting(LOT, A, A, [[A, B], [C, ("f", B)]]), False)
        self.assertIs(is_parting(LOT, A, B, [[A], [B], [C, ("f", B)]]), False)
        self.assertIs(is_parting(Lot([]), A, A, [[A]]), False)
        self.assertIs(is_parting(Lot([]), A, A, [[A], [A]]), False)
        self.assertIs(is_parting(LOT, C, ("f", A), [[A, B], [C, ("f", B)], [("f", A)]]), False)

    def test_near_to_one(self):
        self.assertIs(is_parting(LOT, A, C, [[A, B], [C, ("f", B)]]), True)
        near = [
            ([A, B], [C, ("f", B)]), [(A, B), [C, ("f", B)]], [[A, B], (C, ("f", B))], [[A, B], {C: 0, ("f", B): 0}],
            {0: [A, B], 1: [C, ("f", B)]}, [[list(A), B], [C, ("f", B)]], [[A, B], [C, ("f", list(B))]], [[A, B], C],
            [[[A, B], [C, ("f", B)]]], [A, B, C, ("f", B)], [[A, B, None], [C, ("f", B)]], [[A, B], [C, ("f", B)], None],
            [["a", "b"], ["c", "f(b)"]], [[A, B], [C, ("f", B, B)]], [[A, A], [C, ("f", B)]], [], [[]], [[A], [C]],
            [[A, B], [C, ("f", A)]], ("no", [[A, B], [C, ("f", B)]]), [[A, B], [C], [("f", B)]], [[A], [B], [C, ("f", B)]],
        ]
        for value in near:
            before = copy.deepcopy(value)
            self.assertIs(is_parting(LOT, A, C, value), False, value)
            self.assertEqual(value, before)

    def test_any_value(self):
        parting = [[A, B], [C, ("f", B)]]
        for value in any_values():
            for wrong in (value, [value], parting + [value], [value] + parting, [parting[0] + [value], parting[1]],
                          [[A, B], value], [[A, value], parting[1]], [[value]]):
                self.assertIs(is_parting(LOT, A, C, wrong), False, wrong)
                self.assertIs(is_parting(Lot([]), A, A, wrong), False, wrong)


class TestClasses(unittest.TestCase):
    def test_no_rules(self):
        self.assertEqual(classes(Lot([])), [])

    def test_in_order(self):
        self.assertEqual(classes(LOT), [[A, B], [C, ("f", B)]])
        self.assertEqual(classes(Lot([(("f", ("g", C)), D), (A, ("g", C)), (Z, D)])), [
            [A, ("g", C)], [C], [D, Z, ("f", ("g", C))]])
        self.assertEqual(classes(CHAIN), [LETTERS])

    def test_trees_with_equal_children(self):
        lot = Lot([AB, (("f", A), C), (("f", B), D), (("g", C, A), Z), (("g", D, B), ("y",))])
        self.assertEqual(classes(lot), [
            [A, B], [C, D, ("f", A), ("f", B)], [("y",), Z, ("g", C, A), ("g", D, B)]])
        # Rings of equal trees, whose members are equal only by way of greater ones.
        lot = Lot([(("f", ("f", ("f", A))), A), (("f", ("f", A)), A)])
        self.assertEqual(classes(lot), [[A, ("f", A), ("f", ("f", A)), ("f", ("f", ("f", A)))]])

    def test_by_definition(self):
        for lot in MANY + [GROWING, WIDE, WILD]:
            told = parts_told(lot)
            least = least_equals(lot, told)
            expected = [[part for part in told if least[part] == first] for first in told if least[first] == first]
            self.assertEqual(classes(lot), expected, lot.rules())

    def test_returned_lists_are_new(self):
        first, second = classes(LOT), classes(LOT)
        self.assertEqual(len({id(thing) for thing in [first, second] + first + second}), 6)
        first[0].clear()
        first.clear()
        self.assertEqual(classes(LOT), second)
