"""Tests of graftrules.settled: points 3, 7 and 17."""

import copy
import random
import unittest

from graftrules import settled as settled_file
from graftrules.equals import least_bridge
from graftrules.errors import BadLot
from graftrules.likeness import trimmed
from graftrules.lots import Lot
from graftrules.settled import least_equal, same_equalities, settled
from graftrules.trees import places, put, size
from tests.helper import (A, AB, B, BC, C, CHAIN, D, GROWING, LETTERS, SIGNS, WIDE, WILD, Z, branches, forty, fours,
                          in_order, least_equals, lots_by, nested, parts_told, signs_of, tree_by, trees_of)

FEW_SIGNS = [("a", 0), ("b", 0), ("f", 1), ("h", 2)]
MANY = lots_by(91, 100, 5, SIGNS) + lots_by(92, 100, 4, FEW_SIGNS)
# The example of the document.
LOT = Lot([(A, ("f", A)), (B, ("f", ("f", A)))])


def settled_by_definition(lot):
    told = parts_told(lot)
    signs = signs_of(lot)
    trees = in_order(told + [tree for row in trees_of(signs, max([1] + [size(part) for part in told])) for tree in row])
    least = least_equals(lot, trees)
    rules = {(part[0],) + tuple(least[child] for child in part[1:]): least[part] for part in told}
    return [(left, rules[left]) for left in in_order(rules) if left != rules[left]]


def settled_tree(rules, tree, chance):
    """Return where any way by some rules ends."""
    while True:
        behind = [put(tree, place, right) for place, part in places(tree) for left, right in rules if part == left]
        if not behind:
            return tree
        tree = chance.choice(behind)


class TestInterface(unittest.TestCase):
    def test_defined_in_its_file(self):
        for name in ("settled", "least_equal", "same_equalities"):
            self.assertEqual(getattr(settled_file, name).__module__, "graftrules.settled")

    def test_names_of_arguments(self):
        self.assertEqual(settled(lot=Lot([AB])), [(B, A)])
        self.assertEqual(least_equal(tree=("f", B), lot=Lot([AB])), ("f", A))
        self.assertIs(same_equalities(other=Lot([(B, A)]), one=Lot([AB])), True)


class TestSettled(unittest.TestCase):
    def test_no_rules(self):
        self.assertEqual(settled(Lot([])), [])

    def test_one_rule(self):
        for left, right in ((A, B), (("f", A), B), (("f", B), ("f", A)), (A, ("f", A)), (("a", B, C), Z)):
            low, high = in_order([left, right])
            self.assertEqual(settled(Lot([(left, right)])), [(high, low)])
            self.assertEqual(settled(Lot([(right, left)])), [(high, low)])

    def test_children_are_replaced(self):
        self.assertEqual(settled(LOT), [(B, A), (("f", A), A)])
        lot = Lot([(B, A), (("f", B), C), (("g", ("f", B), B), D)])
        self.assertEqual(settled(lot), [(B, A), (("f", A), C), (("g", C, A), D)])

    def test_each_rule_once(self):
        # Several told parts have the same rule here.
        lot = Lot([AB, (("f", A), C), (("f", B), D), (("g", ("f", A)), Z), (("g", ("f", B)), ("y",))])
        self.assertEqual(settled(lot), [(B, A), (D, C), (Z, ("y",)), (("f", A), C), (("g", C), ("y",))])

    def test_in_the_order_of_left_sides(self):
        lot = Lot([(("k", A, A), ("b", ("b", A))), (("f", ("f", A)), ("h", B)), (D, C)])
        self.assertEqual(settled(lot), [
            (D, C), (("f", ("f", A)), ("h", B)), (("k", A, A), ("b", ("b", A)))])
        self.assertEqual([left for left, _ in settled(CHAIN)], LETTERS[1:])

    def test_by_definition(self):
        seen = 0
        for lot in MANY + [LOT, CHAIN]:
            if len(trees_up_to_told(lot)) < 800:
                self.assertEqual(settled(lot), settled_by_definition(lot), lot.rules())
                seen += 1
        self.assertGreater(seen, 100)

    def test_no_more_rules_than_the_lot(self):
        fewer = 0
        for lot in MANY + [GROWING, WIDE, WILD, LOT, CHAIN]:
            self.assertLessEqual(len(settled(lot)), len(lot))
            fewer += len(settled(lot)) < len(lot)
        self.assertGreater(fewer, 3)
        self.assertEqual(len(settled(Lot([AB, (B, A), BC, (A, C), (C, A)]))), 2)

    def test_sides_with_more_levels(self):
        # The left sides have four levels, and the least tree of a child has four as well.
        lot = Lot([(("h", ("g", B, B, B, B)), Z), (("g", B, B, B, B), nested(A, 3, lambda tree: ("f", tree)))])
        self.assertEqual(settled(lot)[-1], (("h", nested(A, 3, lambda tree: ("f", tree))), Z))
        lot = Lot([(("h", ("h", ("g", A, B, C))), Z), (("g", A, B, C), nested(A, 3, lambda tree: ("f", tree)))])
        deep = ("h", ("h", nested(A, 3, lambda tree: ("f", tree))))
        self.assertEqual(settled(lot), [(("g", A, B, C), nested(A, 3, lambda tree: ("f", tree))), (deep, Z)])
        self.assertRaises(BadLot, Lot, settled(lot))
        self.assertEqual(least_equal(lot, ("h", ("h", ("g", A, B, C)))), Z)

    def test_used_as_rules(self):
        chance = random.Random(93)
        for lot in MANY + [GROWING, WIDE, WILD, LOT]:
            rules = settled(lot)
            for left, right in rules:
                self.assertLess((size(right), right), (size(left), left))
                self.assertLessEqual(size(left), 6)
                self.assertIsNotNone(least_bridge(lot, left, right))
            for tree in [tree_by(chance, 4, SIGNS) for _ in range(3)] + lot.parts():
                goal = least_equal(lot, tree)
                self.assertEqual(settled_tree(rules, tree, chance), goal)
                self.assertEqual(settled_tree(rules, tree, chance), goal)

    def test_returned_lists_are_new(self):
        self.assertIsNot(settled(LOT), settled(LOT))
        settled(LOT).clear()
        self.assertEqual(settled(Lot(copy.deepcopy(LOT.rules()))), [(B, A), (("f", A), A)])
        self.assertEqual(LOT.rules(), [(A, ("f", A)), (B, ("f", ("f", A)))])


def trees_up_to_told(lot):
    """List all trees of the signs of a lot that are as great as its greatest told part, or less."""
    most = max([1] + [size(part) for part in lot.parts()])
    return [tree for row in trees_of(signs_of(lot), most) for tree in row]


class TestLeastEqual(unittest.TestCase):
    def test_no_rules(self):
        for tree in (A, ("f", A, B), forty(A, B)):
            self.assertEqual(least_equal(Lot([]), tree), tree)

    def test_trees_with_parts_that_are_told(self):
        self.assertEqual(least_equal(LOT, ("g", ("f", B))), ("g", A))
        self.assertEqual(least_equal(LOT, B), A)
        self.assertEqual(least_equal(LOT, ("f", ("f", ("f", ("f", B))))), A)
        self.assertEqual(least_equal(LOT, ("f", C)), ("f", C))

    def test_size_counts_ahead_of_names(self):
        self.assertEqual(least_equal(Lot([(("a", A), Z)]), ("a", A)), Z)
        self.assertEqual(least_equal(Lot([(("f", A), ("b", D, D))]), ("b", D, D)), ("f", A))
        self.assertEqual(least_equal(Lot([(("f", A, C), ("f", B, A))]), ("g", ("f", B, A))), ("g", ("f", A, C)))
        self.assertEqual(least_equal(Lot([(("f", ("a", A), B), ("f", B, ("a", A)))]), ("f", ("a", A), B)),
                         ("f", ("a", A), B))

    def test_all_trees_of_few_nodes(self):
        seen = 0
        for lot in lots_by(94, 60, 4, FEW_SIGNS) + [LOT]:
            trees = in_order([tree for row in trees_of(FEW_SIGNS, 5) for tree in row] + trees_up_to_told(lot))
            if len(trees) < 900:
                least = least_equals(lot, trees)
                for tree in trees:
                    self.assertEqual(least_equal(lot, tree), least[tree], (lot.rules(), tree))
                    seen += least[tree] != tree
        self.assertGreater(seen, 500)

    def test_trees_of_forty_nodes(self):
        self.assertEqual(least_equal(GROWING, forty(A, B)), forty(A, A))
        self.assertEqual(least_equal(CHAIN, branches(31, 4, LETTERS[8])), branches(31, 4, A))
        tree = ("f",) + (("pf", ("pg", ("ph", ("qa",))), ("pc",), ("pc",)),) * 4
        found = least_equal(WIDE, tree)
        self.assertEqual(found, ("f",) + (("pb",),) * 4)
        self.assertEqual(least_bridge(WIDE, tree, found), 4 * 3)
        lot = Lot([(fours(A), A), (("g", A, A, A, A), A)])
        self.assertEqual(least_equal(lot, branches(31, 4, A)), A)


class TestSameEqualities(unittest.TestCase):
    def assertSame(self, one, other):
        expected = all(least_bridge(other, *rule) is not None for rule in one.rules()) and all(
            least_bridge(one, *rule) is not None for rule in other.rules())
        self.assertIs(same_equalities(one, other), expected, (one.rules(), other.rules()))
        self.assertIs(same_equalities(other, one), expected)
        self.assertIs(settled(one) == settled(other), expected)
        return expected

    def test_written_otherwise(self):
        for lot in MANY + [GROWING, WIDE, WILD, LOT, CHAIN, Lot([])]:
            rules = lot.rules()
            half = Lot(rules[1:]) + Lot([rule[::-1] for rule in rules[:1]])
            for other in (lot.turned(), Lot(rules[::-1]), trimmed(lot), half):
                self.assertIs(same_equalities(lot, other), True)
                self.assertEqual(settled(lot), settled(other))

    def test_settled_lists_as_lots(self):
        for lot in MANY + [GROWING, LOT, CHAIN]:
            try:
                other = Lot(settled(lot))
            except BadLot:
                continue
            self.assertIs(same_equalities(lot, other), True)
            self.assertEqual(settled(other), settled(lot))

    def test_other_rules_with_the_same_equalities(self):
        self.assertIs(same_equalities(Lot([AB, BC]), Lot([(A, C), BC])), True)
        self.assertIs(same_equalities(Lot([AB, BC]), Lot([(A, C), (B, A), BC])), True)
        self.assertIs(same_equalities(LOT, Lot([(("f", B), A), (B, A)])), True)
        three, two = nested(A, 3, lambda tree: ("f", tree)), nested(A, 2, lambda tree: ("f", tree))
        self.assertIs(same_equalities(Lot([(three, A), (two, A)]), Lot([(("f", A), A)])), True)

    def test_other_equalities(self):
        self.assertIs(same_equalities(Lot([]), Lot([AB])), False)
        self.assertIs(same_equalities(Lot([AB]), Lot([AB, BC])), False)
        self.assertIs(same_equalities(Lot([AB]), Lot([(A, C)])), False)
        self.assertIs(same_equalities(Lot([(("f", A), A)]), Lot([(("f", ("f", A)), A)])), False)
        self.assertIs(same_equalities(GROWING, WIDE), False)

    def test_no_rules(self):
        self.assertIs(same_equalities(Lot([]), Lot([])), True)

    def test_many(self):
        chance = random.Random(95)
        answers = []
        for lot in MANY:
            answers.append(self.assertSame(lot, chance.choice(MANY)))
            if len(lot):
                answers.append(self.assertSame(lot, lot.without(chance.randrange(len(lot)))))
                left, right = lot.rules()[-1]
                answers.append(self.assertSame(lot, Lot(lot.rules()[:-1]) + Lot([(right, left)])))
        self.assertGreater(min(answers.count(True), answers.count(False)), 100)
