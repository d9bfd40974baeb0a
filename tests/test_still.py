"""Tests of graftrules.still: points 3 and 13."""

import copy
import inspect
import itertools
import random
import unittest

from graftrules import still
from graftrules.lots import Lot, steps
from graftrules.still import still_count, still_trees
from tests.helper import A, AB, B, C, D, GROWING, SIGNS, WIDE, in_order, lots_by, nested, trees_of

MANY = lots_by(101, 80, 5, SIGNS)
# The example of the document.
LOT = Lot([(("f", A), A)])
SOME = [("a", 0), ("b", 0), ("f", 1)]
FULL = [("a", 0), ("h", 2)]
CATALAN = [1, 1, 2, 5, 14, 42]
MOTZKIN = [1, 1, 2, 4, 9, 21, 51, 127, 323, 835, 2188, 5798]


def still_by_steps(lot, signs, most):
    """List for each number of nodes the still trees of some signs."""
    return [[tree for tree in trees if not list(steps(lot, tree))] for trees in trees_of(signs, most)]


def choices_of_signs(chance):
    """List some lists of signs, also of such as the lots have not."""
    some = [("a", 0), ("b", 0), ("z", 0), ("f", 1), ("y", 1), ("h", 2), ("a", 1), ("a", 2), ("f", 0)]
    found = []
    while len(found) < 3:
        signs = chance.sample(some, chance.randint(1, 4))
        if any(many == 0 for _, many in signs):
            found.append(signs)
    return found


class TestInterface(unittest.TestCase):
    def test_defined_in_its_file(self):
        for name in ("still_count", "still_trees"):
            self.assertEqual(getattr(still, name).__module__, "graftrules.still")

    def test_names_of_arguments(self):
        self.assertEqual(still_count(size=2, signs=SOME, lot=LOT), 1)
        self.assertEqual(list(still_trees(most=1, signs=SOME, lot=LOT)), [A, B])

    def test_is_a_generator(self):
        self.assertTrue(inspect.isgeneratorfunction(still_trees))


class TestStillCount(unittest.TestCase):
    def test_no_rules(self):
        none = Lot([])
        self.assertEqual([still_count(none, SOME, nodes) for nodes in range(1, 13)], [2] * 12)
        self.assertEqual([still_count(none, FULL, nodes) for nodes in range(1, 13, 2)], CATALAN)
        self.assertEqual([still_count(none, FULL, nodes) for nodes in range(2, 13, 2)], [0] * 6)
        self.assertEqual([still_count(none, FULL + [("f", 1)], nodes) for nodes in range(1, 13)], MOTZKIN)
        self.assertEqual([still_count(none, [("a", 0)], nodes) for nodes in (1, 2, 12)], [1, 0, 0])

    def test_one_rule(self):
        self.assertEqual([still_count(LOT, SOME, nodes) for nodes in range(1, 13)], [2] + [1] * 11)
        self.assertEqual([still_count(Lot([AB]), SOME, nodes) for nodes in range(1, 13)], [1] * 12)
        self.assertEqual([still_count(Lot([(("h", A, A), A)]), FULL, nodes) for nodes in range(1, 13)], [1] + [0] * 11)
        deep = Lot([(nested(A, 3, lambda tree: ("f", tree)), A)])
        self.assertEqual([still_count(deep, SOME, nodes) for nodes in range(1, 13)], [2, 2, 2] + [1] * 9)

    def test_left_sides_within_others(self):
        # f(a) stands in the second left side, so that one forbids nothing more.
        lot = Lot([(("f", A), A), (("f", ("f", A)), B), (("f", ("f", B)), C), (("f", ("f", B)), D)])
        self.assertEqual([still_count(lot, SOME, nodes) for nodes in range(1, 7)], [2, 1, 0, 0, 0, 0])
        self.assertEqual([still_count(lot.without(0), SOME, nodes) for nodes in range(1, 7)], [2, 2, 0, 0, 0, 0])

    def test_left_sides_of_other_signs(self):
        self.assertEqual(still_count(Lot([(("f", C), A), (("g", A), A), (("f", A, A), B), (C, D)]), SOME, 2), 2)
        self.assertEqual(still_count(WIDE, FULL, 11), 42)

    def test_all_trees_of_few_nodes(self):
        chance = random.Random(102)
        for lot in MANY:
            for signs in choices_of_signs(chance):
                expected = [len(trees) for trees in still_by_steps(lot, signs, 5)]
                found = [still_count(lot, signs, nodes) for nodes in range(1, 6)]
                self.assertEqual(found, expected[1:], (lot.rules(), signs))

    def test_up_to_twelve_nodes(self):
        lot = Lot([(("f", ("f", A)), A), (("h", A, ("f", A)), B), (("h", A, A), C)])
        signs = [("a", 0), ("f", 1), ("h", 2)]
        expected = [len(trees) for trees in still_by_steps(lot, signs, 8)][1:]
        self.assertEqual([still_count(lot, signs, nodes) for nodes in range(1, 9)], expected)
        # Trees of five signs, of which the trees of a size are very many.
        five = [("a", 0), ("b", 0), ("f", 1), ("h", 2), ("k", 2)]
        counts = [0]
        for nodes in range(1, 13):
            pairs = sum(counts[first] * counts[nodes - 1 - first] for first in range(1, nodes - 1))
            counts.append((2 if nodes == 1 else 0) + counts[nodes - 1] + 2 * pairs - {2: 1, 3: 1}.get(nodes, 0))
        rules = Lot([(("f", A), A), (("k", B, A), A)])
        self.assertEqual([still_count(rules, five, nodes) for nodes in range(1, 13)], counts[1:])
        self.assertGreater(counts[12], 10 ** 5)

    def test_order_of_signs_does_not_matter(self):
        for signs in itertools.permutations(SOME):
            self.assertEqual([still_count(LOT, list(signs), nodes) for nodes in (1, 2, 3)], [2, 1, 1])


class TestStillTrees(unittest.TestCase):
    def test_in_order(self):
        self.assertEqual(list(still_trees(LOT, SOME, 2)), [A, B, ("f", B)])
        signs = [("f", 1), ("b", 0), ("a", 1), ("h", 2)]
        self.assertEqual(list(still_trees(Lot([(("a", B), B)]), signs, 3)), [
            B, ("f", B), ("a", ("f", B)), ("f", ("f", B)), ("h", B, B)])

    def test_one_name_with_several_numbers_of_children(self):
        signs = [("a", 2), ("a", 0), ("a", 1)]
        self.assertEqual(list(still_trees(Lot([(("a", A), A)]), signs, 4)), [A, ("a", A, A), ("a", ("a", A, A))])
        self.assertEqual(list(still_trees(Lot([(("a", A, A), A)]), signs, 3)), [A, ("a", A), ("a", ("a", A))])

    def test_all_trees_of_few_nodes(self):
        chance = random.Random(103)
        for lot in MANY:
            for signs in choices_of_signs(chance):
                by_nodes = still_by_steps(lot, signs, 5)
                for most in range(1, 6):
                    found = list(still_trees(lot, signs, most))
                    expected = [tree for trees in by_nodes[:most + 1] for tree in in_order(trees)]
                    self.assertEqual(found, expected, (lot.rules(), signs))

    def test_each_once_and_as_many_as_counted(self):
        for lot in (GROWING, WIDE, LOT, Lot([])):
            for signs in (SIGNS, [("a", 0), ("b", 0), ("z", 0), ("f", 2), ("h", 2)]):
                found = list(still_trees(lot, signs, 5))
                self.assertEqual(len(set(found)), len(found))
                self.assertEqual(found, in_order(found))
                self.assertEqual(len(found), sum(still_count(lot, signs, nodes) for nodes in range(1, 6)))

    def test_no_still_trees(self):
        self.assertEqual(list(still_trees(Lot([AB]), [("a", 0), ("f", 1)], 5)), [])
        self.assertEqual([still_count(Lot([AB]), [("a", 0), ("f", 1)], nodes) for nodes in range(1, 13)], [0] * 12)

    def test_two_walked_by_turns(self):
        expected = list(still_trees(LOT, SOME, 5))
        one, other, third = still_trees(LOT, SOME, 5), still_trees(LOT, SOME, 5), still_trees(Lot([]), FULL, 5)
        pairs = [(next(one), next(other), next(third)) for _ in range(3)]
        self.assertEqual([pair[0] for pair in pairs], expected[:3])
        self.assertEqual([pair[1] for pair in pairs], expected[:3])
        self.assertEqual([pair[2] for pair in pairs], list(still_trees(Lot([]), FULL, 5))[:3])
        self.assertEqual(list(other), expected[3:])
        self.assertEqual(list(still_trees(LOT, SOME, 5)), expected)
        self.assertEqual(list(one), expected[3:])

    def test_arguments_stay(self):
        signs, lot = copy.deepcopy(SIGNS), Lot(MANY[3].rules())
        first = list(still_trees(lot, signs, 4)), still_count(lot, signs, 7)
        self.assertEqual([signs, lot], [SIGNS, MANY[3]])
        self.assertEqual((list(still_trees(lot, signs, 4)), still_count(lot, signs, 7)), first)
