"""Tests of graftrules.endings: points 3, 7 and 11."""

import copy
import itertools
import random
import unittest

from graftrules import endings
from graftrules.endings import ending, greatest, is_order, is_ring, longest, most_steps
from graftrules.errors import GoesOn, TooLong
from graftrules.lots import Lot, after, steps
from graftrules.trees import places, size
from graftrules.ways import least_steps
from tests.helper import (A, AB, B, BC, C, CHAIN, D, LETTERS, SIGNS, any_values, branches, fours, growing, lots_by,
                          tree_by)

MANY = lots_by(31, 250, 4, SIGNS)
GREAT = Lot([(LETTERS[k], fours(LETTERS[k + 1])) for k in range(8)])
# The left side of the second rule stands in no right side, but one of their parts becomes it.
THROUGH_WAYS = Lot([(A, ("f", ("g", B))), (("g", ("f", D)), ("h", A)), (B, C), (C, ("f", D))])


def leads(lot, tree, number):
    return least_steps(lot, tree, lot.rules()[number][0]) is not None


def links(lot):
    """List the tuples (i, k) of rules such that some part of the right side of i becomes the left side of k."""
    numbers = range(len(lot))
    return [(i, k) for i in numbers for k in numbers
            if any(leads(lot, part, k) for _, part in places(lot.rules()[i][1]))]


def levels(tree):
    return 1 + max([levels(child) for child in tree[1:]], default=0)


def farthest(lot, tree, known):
    """Return (most steps, most nodes, most levels) of all ways from a tree, each of which is gone."""
    if tree not in known:
        behind = [farthest(lot, other, known) for _, _, other in steps(lot, tree)]
        known[tree] = (
            max([most + 1 for most, _, _ in behind], default=0),
            max([size(tree)] + [nodes for _, nodes, _ in behind]),
            max([levels(tree)] + [high for _, _, high in behind]),
        )
    return known[tree]


class EndingCase(unittest.TestCase):
    def assertEnds(self, lot):
        word, order = ending(lot)
        self.assertEqual([word, sorted(order)], ["yes", list(range(len(lot)))], lot.rules())
        for i, k in links(lot):
            self.assertLess(order.index(i), order.index(k), lot.rules())
        self.assertIs(is_order(lot, order), True)
        self.assertIs(is_ring(lot, order), False)

    def assertGoesOn(self, lot):
        word, ring = ending(lot)
        self.assertEqual(word, "no", lot.rules())
        self.assertGreater(len(ring), 0)
        for (number, place), (following, _) in zip(ring, ring[1:] + ring[:1]):
            self.assertTrue(leads(lot, dict(places(lot.rules()[number][1]))[place], following), lot.rules())
        self.assertIs(is_ring(lot, ring), True)
        self.assertIs(is_order(lot, ring), False)
        for ask in (greatest, most_steps, longest):
            self.assertRaises(GoesOn, ask, lot, A)
            self.assertRaises(GoesOn, ask, lot, ("x", ("y",)))


class TestInterface(unittest.TestCase):
    def test_defined_in_its_file(self):
        for name in ("ending", "is_order", "is_ring", "greatest", "most_steps", "longest"):
            self.assertEqual(getattr(endings, name).__module__, "graftrules.endings")

    def test_names_of_arguments(self):
        lot = Lot([AB])
        self.assertEqual(ending(lot=lot), ("yes", [0]))
        self.assertIs(is_order(lot=lot, value=[0]), True)
        self.assertIs(is_ring(lot=lot, value=[(0, ())]), False)
        self.assertEqual(greatest(lot=lot, tree=A), (1, 1))
        self.assertEqual(most_steps(lot=lot, tree=A), 1)
        self.assertEqual(longest(lot=lot, tree=A), [((), 0)])


class TestEnding(EndingCase):
    def test_empty_lot(self):
        self.assertEqual(ending(Lot([])), ("yes", []))

    def test_rules_that_grow_and_end(self):
        self.assertEqual(ending(GREAT), ("yes", [0, 1, 2, 3, 4, 5, 6, 7]))
        self.assertEnds(GREAT)
        self.assertEqual(ending(Lot(GREAT.rules()[::-1])), ("yes", [7, 6, 5, 4, 3, 2, 1, 0]))
        self.assertEqual(ending(CHAIN), ("yes", [0, 1, 2, 3, 4, 5, 6, 7]))
        self.assertEnds(Lot([(A, ("f", B, ("f", B, ("f", B))))]))
        self.assertEnds(Lot([(("f", A), ("f", ("f", B))), (B, ("g", ("g", C)))]))

    def test_the_left_side_need_not_shrink(self):
        self.assertEnds(Lot([(A, ("f", C)), (("f", A), ("g", ("f", C))), (("g", B), A)]))

    def test_rings_of_one_rule(self):
        self.assertEqual(ending(Lot([(A, ("f", A))])), ("no", [(0, (0,))]))
        self.assertEqual(ending(Lot([AB, (C, ("f", B, ("g", B, C)))])), ("no", [(1, (1, 1))]))
        self.assertEqual(ending(Lot([(("f", A), ("g", ("g", ("f", A))))])), ("no", [(0, (0, 0))]))
        self.assertGoesOn(Lot([(("f", A), ("h", B, ("f", A)))]))

    def test_rings_of_two_rules(self):
        lot = Lot([(A, ("f", B)), (B, ("g", C, A))])
        self.assertGoesOn(lot)
        self.assertEqual(sorted(ending(lot)[1]), [(0, (0,)), (1, (1,))])
        self.assertGoesOn(Lot([AB, (B, A)]))
        self.assertGoesOn(Lot([(C, D), (A, ("f", C, ("f", B))), (B, ("h", C, A))]))

    def test_rings_of_three_rules(self):
        lot = Lot([(A, ("f", B)), (C, ("g", B, A)), (B, ("h", ("h", C)))])
        self.assertGoesOn(lot)
        lot = Lot([(A, ("f", B)), (C, ("g", D, A)), (B, ("h", ("h", C))), (D, ("e",))])
        self.assertGoesOn(lot)
        self.assertEqual(sorted(ending(lot)[1]), [(0, (0,)), (1, (1,)), (2, (0, 0))])
        self.assertGoesOn(Lot([AB, (C, A), BC]))
        lot = Lot([(A, ("f", B)), (D, ("f", A)), (B, ("f", C, C)), (C, ("f", ("f", B, A)))])
        self.assertGoesOn(lot)

    def test_rings_through_ways(self):
        self.assertGoesOn(THROUGH_WAYS)
        self.assertEqual(sorted(ending(THROUGH_WAYS)[1]), [(0, (0,)), (1, (0,))])
        self.assertEnds(Lot(THROUGH_WAYS.rules()[:3]))
        self.assertEnds(THROUGH_WAYS.without(0))
        self.assertEnds(THROUGH_WAYS.without(2))
        lot = Lot([(A, B), (B, C), (("f", C), ("g", ("f", A)))])
        self.assertEqual(ending(lot), ("no", [(2, (0,))]))
        self.assertGoesOn(lot)
        self.assertEnds(lot.without(1))

    def test_rings_at_a_place_deep_within(self):
        self.assertEqual(ending(Lot([(("f", A), ("g", ("g", ("f", A))))])), ("no", [(0, (0, 0))]))
        self.assertEqual(ending(Lot([(A, ("g", ("g", B, ("h", A))))])), ("no", [(0, (0, 1, 0))]))

    def test_rules_ahead_of_and_behind_a_ring(self):
        ring = {(A, ("f", B)), (B, ("g", A))}
        for rules in itertools.permutations([(("x",), A), (B, ("y",)), (("y",), ("z",))] + sorted(ring)):
            lot = Lot(list(rules))
            self.assertGoesOn(lot)
            self.assertEqual({lot.rules()[number] for number, _ in ending(lot)[1]}, ring)

    def test_any_order_of_rules(self):
        for rules in itertools.permutations([(A, ("f", B, C)), (B, D), (C, ("f", D)), (("f", D), ("g", D))]):
            self.assertEnds(Lot(list(rules)))

    def test_many(self):
        words = []
        for lot in MANY:
            words.append(ending(lot)[0])
            orders = [order for order in itertools.permutations(range(len(lot)))
                      if all(order.index(i) < order.index(k) for i, k in links(lot))]
            if orders:
                self.assertEnds(lot)
            else:
                self.assertGoesOn(lot)
        self.assertGreater(min(words.count("yes"), words.count("no")), 50)

    def test_eight_rules_and_twenty_four_told_parts(self):
        sides = [(s + "f", (s + "g", (s + "h", (s + "a",))), (s + "b",), (s + "c",)) for s in "pqrs"]
        rules = [(sides[0], sides[1]), (sides[2], sides[3]), (("qa",), ("pa",)), (("qb",), sides[2])]
        rules += [(sides[1][1], ("sa",)), (("sa",), ("sb",)), (("sb",), ("sc",)), (sides[3][1][1], ("rb",))]
        self.assertEqual([len(rules), len(Lot(rules).parts())], [8, 24])
        self.assertEnds(Lot(rules))
        self.assertGoesOn(Lot(rules[:7] + [(sides[3][1][1], ("qb",))]))

    def test_returned_lists_are_new(self):
        for lot in (CHAIN, THROUGH_WAYS):
            before = copy.deepcopy(ending(lot))
            self.assertEqual(ending(Lot(copy.deepcopy(lot.rules()))), before)
            self.assertIsNot(ending(lot)[1], ending(lot)[1])
            ending(lot)[1].clear()
            self.assertEqual(ending(lot), before)


class TestIsOrder(unittest.TestCase):
    def test_all_rows_of_numbers(self):
        for lot in MANY[:60] + [Lot([]), Lot([AB, BC, (C, D)]), Lot([AB, (C, D), BC, (A, C)])]:
            pairs = links(lot)
            for length in range(len(lot) + 2):
                for row in itertools.product(range(len(lot)), repeat=length):
                    expected = sorted(row) == list(range(len(lot))) and all(
                        row.index(i) < row.index(k) for i, k in pairs)
                    self.assertIs(is_order(lot, list(row)), expected, (lot.rules(), row))

    def test_lists_near_to_one(self):
        lot = Lot([AB, BC, (C, D)])
        self.assertIs(is_order(lot, [0, 1, 2]), True)
        near = [
            [0, 1], [0, 2, 1], [1, 0, 2], [0, 1, 2, 2], [0, 1, 2, 3], [0, 1, 1], [0, 0, 2], [0, 1, 3], [0, 1, -1],
            [-3, -2, -1], (0, 1, 2), [[0, 1, 2]], [0, True, 2], [False, 1, 2], [0, 1, "2"], [0, 1, (2,)], [0, 1, None],
            {0: 0, 1: 1, 2: 2}, [0, 1, [2]], "012", [(0, ()), (1, ()), (2, ())], [0, 1, 10 ** 30], [2, 1, 0],
        ]
        for value in near:
            before = copy.deepcopy(value)
            self.assertIs(is_order(lot, value), False, value)
            self.assertEqual(value, before)

    def test_truths(self):
        self.assertIs(is_order(Lot([AB]), [0]), True)
        self.assertIs(is_order(Lot([AB]), [False]), False)
        self.assertIs(is_order(Lot([AB, BC]), [0, 1]), True)
        self.assertIs(is_order(Lot([AB, BC]), [0, True]), False)
        self.assertIs(is_order(Lot([AB, BC]), [False, True]), False)

    def test_no_rules(self):
        self.assertIs(is_order(Lot([]), []), True)
        for value in ((), {}, [0], [[]], None, ""):
            self.assertIs(is_order(Lot([]), value), False)

    def test_rules_that_lead_to_themselves(self):
        self.assertIs(is_order(Lot([(A, ("f", A))]), [0]), False)
        self.assertIs(is_order(Lot([AB, (C, ("g", C))]), [0, 1]), False)

    def test_any_value(self):
        for value in any_values():
            for lot in (Lot([AB]), Lot([AB, BC]), Lot([(A, ("f", A))])):
                expected = lot == Lot([AB]) and value == [0]
                self.assertIs(is_order(lot, value), expected, value)
                self.assertIs(is_order(lot, [value]), lot == Lot([AB]) and value == 0 and value is not False)
                self.assertIs(is_order(lot, [0, value]), lot == Lot([AB, BC]) and value == 1 and value is not True)


class TestIsRing(unittest.TestCase):
    def test_all_short_lists(self):
        found = 0
        for lot in MANY[:80]:
            told = [(number, place) for number, (_, right) in enumerate(lot.rules()) for place, _ in places(right)]
            part = {(number, place): dict(places(lot.rules()[number][1]))[place] for number, place in told}
            for length in (1, 2, 3):
                if len(told) ** length < 1200:
                    for row in itertools.product(told, repeat=length):
                        expected = all(leads_by(lot, part[thing], following[0])
                                       for thing, following in zip(row, row[1:] + row[:1]))
                        self.assertIs(is_ring(lot, list(row)), expected, (lot.rules(), row))
                        found += expected
        self.assertGreater(found, 100)

    def test_rings_of_any_length(self):
        lot = Lot([AB, (B, ("f", A, B))])
        for ring in ([(0, ()), (1, (0,))], [(1, (0,)), (0, ())], [(1, (1,))], [(1, (1,))] * 300,
                     [(0, ()), (1, (1,)), (1, (1,)), (1, (0,))], [(0, ()), (1, (0,))] * 500):
            self.assertIs(is_ring(lot, ring), True, ring)
            self.assertIs(is_order(lot, ring), False)

    def test_through_ways(self):
        self.assertIs(is_ring(THROUGH_WAYS, [(0, (0,)), (1, (0,))]), True)
        self.assertIs(is_ring(THROUGH_WAYS, [(1, (0,)), (0, (0,))]), True)
        for ring in ([(0, ()), (1, (0,))], [(0, (0, 0)), (1, (0,))], [(0, (0,)), (1, ())], [(0, (0,))], [(1, (0,))],
                     [(0, (0, 0)), (2, ()), (1, (0,))]):
            self.assertIs(is_ring(THROUGH_WAYS, ring), False, ring)

    def test_lists_near_to_one(self):
        lot = Lot([(A, ("f", ("f", B))), (B, ("g", C, A)), (C, D)])
        self.assertIs(is_ring(lot, [(0, (0, 0)), (1, (1,))]), True)
        near = [
            [], [(0, (0, 0))], [(1, (1,))], [(0, (0, 0)), (1, (0,))], [(0, (0,)), (1, (1,))], [(1, (1,)), (0, (0, 1))],
            [(0, (0, 0)), (1, (1,)), (2, ())], [(0, (0, 0)), (2, ()), (1, (1,))], [(0, (0, 0)), (1, (1,)), (1, (1,))],
            ((0, (0, 0)), (1, (1,))), [[0, (0, 0)], (1, (1,))], [(0, [0, 0]), (1, (1,))], [(0, (0, 0)), (True, (1,))],
            [(False, (0, 0)), (1, (1,))], [(0, (0, False)), (1, (1,))], [(0, (0, 0)), (1, (True,))],
            [(0, (0, 0), 0), (1, (1,))], [(0, (0, 0)), (1,)], [(0, (0, 0)), (1, 1)], [(0, (0, 0)), (1, (-1,))],
            [(0, (0, 0)), (-2, (1,))], [(0, (0, 0)), (3, (1,))], [(0, (0, 0, 0)), (1, (1,))], [0, 1], [(0, 1)],
            {(0, (0, 0)): 0, (1, (1,)): 1}, [(0, (0, 0)), (1, (1,)), None], [(0, (0, 0)), (1, (1, 0))],
            [((0, 0), 0), ((1,), 1)], (0, (0, 0)), [[(0, (0, 0)), (1, (1,))]],
        ]
        for value in near:
            before = copy.deepcopy(value)
            self.assertIs(is_ring(lot, value), False, value)
            self.assertEqual(value, before)

    def test_lots_that_end(self):
        for lot in (Lot([]), Lot([AB]), CHAIN):
            self.assertIs(is_ring(lot, []), False)
            for number in range(len(lot)):
                self.assertIs(is_ring(lot, [(number, ())]), False)

    def test_any_value(self):
        lot = Lot([(A, ("f", A))])
        self.assertIs(is_ring(lot, [(0, (0,))]), True)
        for value in any_values():
            for wrong in (value, [value], [(0, (0,)), value], [value, (0, (0,))]):
                self.assertIs(is_ring(lot, wrong), False, wrong)
            self.assertIs(is_ring(lot, [(value, (0,))]), value == 0 and value is not False, value)
            self.assertIs(is_ring(lot, [(0, value)]), value == (0,), value)
            self.assertIs(is_ring(lot, [(0, (value,))]), value == 0 and value is not False, value)


LEADS = {}


def leads_by(lot, tree, number):
    key = (tuple(lot.rules()), tree, number)
    if key not in LEADS:
        LEADS[key] = leads(lot, tree, number)
    return LEADS[key]


class TestFarthest(EndingCase):
    def assertFarthest(self, lot, tree, known):
        most, nodes, high = farthest(lot, tree, known)
        self.assertEqual(most_steps(lot, tree), most, (lot.rules(), tree))
        self.assertEqual(greatest(lot, tree), (nodes, high), (lot.rules(), tree))
        way = longest(lot, tree)
        self.assertEqual(len(way), most)
        self.assertGoes(lot, tree, way)

    def assertGoes(self, lot, tree, way):
        self.assertIsInstance(way, list)
        for step in way:
            behind = {(place, number): other for place, number, other in steps(lot, tree)}
            self.assertIn(step, behind)
            tree = behind[step]
        # Behind a way with the greatest number of steps, no step is left.
        self.assertEqual(list(steps(lot, tree)), [])

    def test_no_rules(self):
        for tree in (A, ("f", A, ("g", B))):
            self.assertEqual(most_steps(Lot([]), tree), 0)
            self.assertEqual(greatest(Lot([]), tree), (size(tree), levels(tree)))
            self.assertEqual(longest(Lot([]), tree), [])

    def test_the_longest_of_several_ways(self):
        lot = Lot([(A, D), AB, BC, (C, D), (("f", A), D), (("f", D), ("g", D))])
        self.assertEqual([most_steps(lot, tree) for tree in (A, B, ("f", A), ("f", D), ("g", A))], [3, 2, 4, 1, 3])
        self.assertEqual(longest(lot, ("f", A)), [((0,), 1), ((0,), 2), ((0,), 3), ((), 5)])

    def test_greatest_and_highest_are_other_trees(self):
        lot = Lot([(A, ("f", B, B, B, B)), (A, ("g", ("g", B)))])
        self.assertEqual(greatest(lot, A), (5, 3))
        self.assertEqual(greatest(lot, ("f", A, A)), (11, 4))

    def test_trees_that_only_shrink(self):
        lot = Lot([(("f", A, A), B), (("g", B), C)])
        self.assertEqual(greatest(lot, ("g", ("f", A, A))), (4, 3))
        self.assertEqual(most_steps(lot, ("g", ("f", A, A))), 2)

    def test_growth_behind_a_way_that_shrinks(self):
        lot = Lot([(("f", A, A), B), (("g", B), C), (C, ("h", ("h", D, D), ("h", D)))])
        self.assertEqual(greatest(lot, ("g", ("f", A, A))), (6, 3))
        self.assertEqual(greatest(lot, ("g", ("g", ("f", A, A)))), (7, 4))

    def test_all_trees_that_a_tree_becomes(self):
        chance = random.Random(32)
        seen = 0
        for lot in MANY:
            if ending(lot)[0] == "yes":
                known = {}
                for tree in [tree_by(chance, level, SIGNS) for level in (1, 2, 3, 3)] + lot.parts()[-2:]:
                    self.assertFarthest(lot, tree, known)
                    seen = max(seen, known[tree][0])
        self.assertGreater(seen, 4)

    def test_all_trees_of_lots_that_grow(self):
        chance = random.Random(33)
        seen = []
        for _ in range(150):
            lot = growing(chance)
            self.assertEqual(ending(lot)[0], "yes")
            known = {}
            for tree in [LETTERS[0], ("f", LETTERS[0], LETTERS[1]), ("g", ("g", LETTERS[2]), LETTERS[3])]:
                self.assertFarthest(lot, tree, known)
                seen.append(known[tree][0])
        self.assertGreater(max(seen), 12)

    def test_longest_ways_between_parts(self):
        # The way to the left side of the fourth rule is short or long; only the long one counts.
        lot = Lot([AB, BC, (A, C), (("f", C, C), D), (D, ("g", A, A))])
        self.assertFarthest(lot, ("f", A, A), {})
        self.assertEqual(most_steps(lot, ("f", A, A)), 2 * 2 + 1 + 1 + 2 * 2)
        # Here the longest way to the left side uses a rule at the top, and steps within what that puts there.
        lot = Lot([(A, ("f", B, B)), (B, C), (B, D), (D, C), (("f", C, C), ("g", B)), (("h", ("f", C, C)), B)])
        self.assertFarthest(lot, ("h", A), {})
        self.assertEqual(most_steps(lot, ("h", A)), 1 + 2 * 2 + 1 + 2)

    def test_very_great_numbers(self):
        self.assertEqual(most_steps(GREAT, A), (4 ** 8 - 1) // 3)
        self.assertEqual(greatest(GREAT, A), ((4 ** 9 - 1) // 3, 9))
        tree = branches(28, 4, A)
        self.assertEqual(most_steps(GREAT, tree), 28 * (4 ** 8 - 1) // 3)
        self.assertEqual(greatest(GREAT, tree), (28 * (4 ** 9 - 1) // 3 + 9, 3 + 9))
        with self.assertRaises(TooLong) as caught:
            longest(GREAT, A)
        self.assertEqual(caught.exception.number, 21845)
        self.assertEqual(longest(GREAT, LETTERS[8]), [])

    def test_two_hundred_steps_and_more(self):
        tree = branches(25, 4, A)
        self.assertEqual(most_steps(CHAIN, tree), 200)
        way = longest(CHAIN, tree)
        self.assertEqual([len(way), after(CHAIN, tree, way)], [200, branches(25, 4, LETTERS[8])])
        for leaf, number in ((LETTERS[7], 201), (A, 208)):
            more = ("h", tree, leaf)
            self.assertEqual(most_steps(CHAIN, more), number)
            with self.assertRaises(TooLong) as caught:
                longest(CHAIN, more)
            self.assertEqual(caught.exception.number, number)
        less = ("h", branches(22, 4, A), LETTERS[7])
        self.assertGoes(CHAIN, less, longest(CHAIN, less))

    def test_one_step_behind_the_other(self):
        # All steps but the first ones are done in what the steps before them put there.
        rules = [(A, ("f", B, B, B)), (B, ("f", C, C, ("f", C))), (C, ("f", D, D, D)), (D, ("f", ("e",), ("e",)))]
        lot = Lot(rules)
        self.assertEqual(most_steps(lot, A), 1 + 3 * (1 + 3 * (1 + 3)))
        self.assertGoes(lot, ("f", A, A, A), longest(lot, ("f", A, A, A)))
        self.assertEqual(len(longest(lot, ("f", A, A, A, B))), 3 * 40 + 13)

    def test_goes_on_comes_first(self):
        lot = Lot([(LETTERS[k], fours(LETTERS[k + 1])) for k in range(7)] + [(("x",), ("f", ("x",)))])
        for ask in (greatest, most_steps, longest):
            self.assertRaises(GoesOn, ask, lot, A)
            self.assertRaises(GoesOn, ask, lot, ("y",))
        self.assertRaises(TooLong, longest, lot.without(7), A)

    def test_equal_calls_have_equal_results(self):
        lot = Lot([(A, D), AB, BC, (C, D), (B, ("f", C, C))])
        tree = ("f", A, A, B)
        first = longest(lot, tree)
        self.assertEqual(longest(Lot(copy.deepcopy(lot.rules())), copy.deepcopy(tree)), first)
        self.assertIsNot(longest(lot, tree), longest(lot, tree))
        longest(lot, tree).clear()
        self.assertEqual(longest(lot, tree), first)
        self.assertEqual(lot, Lot([(A, D), AB, BC, (C, D), (B, ("f", C, C))]))
