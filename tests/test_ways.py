"""Tests of graftrules.ways: points 3, 7, 8 and 9."""

import copy
import itertools
import random
import unittest

from graftrules import ways
from graftrules.errors import TooLong
from graftrules.lots import Lot, after, steps
from graftrules.tables import Table
from graftrules.trees import part_at, put, size
from graftrules.ways import becomes, is_fence, is_way, least_steps, number_table
from tests.helper import (A, AB, B, BC, C, CHAIN, GROWING, LETTERS, WIDE, WIDE_SIDES, WILD, Z, any_values, branches,
                          forty, fours, is_closed_by_definition, lots_by, nested, parts_told, table_by_definition,
                          tree_by, trees_behind, trees_up_to)

SIGNS = [("a", 0), ("b", 0), ("c", 0), ("f", 1), ("g", 1), ("h", 2)]
# The lots of the tests that go through many lots, trees that grow without end among them.
MANY = lots_by(1, 150, 5, SIGNS)
# a becomes z by four times as many steps as b, and two, and so on.
GREAT = Lot([(LETTERS[k], fours(LETTERS[k + 1])) for k in range(6)] + [(LETTERS[6], fours(Z)), (fours(Z), Z)])
GREAT_NUMBERS = [10922, 2730, 682, 170, 42, 10, 2]


class TestInterface(unittest.TestCase):
    def test_defined_in_its_file(self):
        for name in ("least_steps", "number_table", "becomes", "is_way", "is_fence"):
            self.assertEqual(getattr(ways, name).__module__, "graftrules.ways")

    def test_names_of_arguments(self):
        lot = Lot([AB])
        self.assertEqual(least_steps(lot=lot, tree=A, other=B), 1)
        self.assertEqual(number_table(lot=lot, tree=A, other=B), [(A, A, 0), (A, B, 1), (B, B, 0)])
        self.assertEqual(becomes(lot=lot, tree=A, other=B), ("yes", [((), 0)]))
        self.assertIs(is_way(lot=lot, tree=A, other=B, value=[((), 0)]), True)
        self.assertIs(is_fence(lot=lot, tree=B, other=A, value=[(A, A), (A, B), (B, B)]), True)


class TestLeastSteps(unittest.TestCase):
    def test_a_tree_to_itself(self):
        for lot in (Lot([]), Lot([AB]), Lot([AB, (B, A)]), GROWING, WIDE):
            for tree in (A, B, ("x", ("y",)), ("f", A, B), forty(A, B)):
                self.assertEqual(least_steps(lot, tree, tree), 0)

    def test_no_way(self):
        self.assertIsNone(least_steps(Lot([]), A, B))
        self.assertIsNone(least_steps(Lot([AB]), B, A))
        self.assertIsNone(least_steps(Lot([AB]), ("f", A), ("g", B)))
        self.assertIsNone(least_steps(Lot([AB]), ("f", A), ("f", A, B)))
        self.assertIsNone(least_steps(Lot([AB]), ("f", A, B), ("f", B, A)))
        self.assertIsNone(least_steps(Lot([(("f", A), B)]), ("g", A), B))
        self.assertIsNone(least_steps(GROWING, B, A))

    def test_children_are_added_up(self):
        lot = Lot([AB, BC])
        self.assertEqual(least_steps(lot, ("f", A, A, B, C), ("f", C, B, C, C)), 4)
        self.assertEqual(least_steps(lot, ("f", ("g", A), ("g", ("g", A))), ("f", ("g", C), ("g", ("g", B)))), 3)

    def test_the_least_of_ways_at_the_top_and_within(self):
        chain = [(LETTERS[k], LETTERS[k + 1]) for k in range(4)]
        long, short = ("f", LETTERS[0]), ("f", LETTERS[4])
        self.assertEqual(least_steps(Lot(chain), long, short), 4)
        self.assertEqual(least_steps(Lot(chain + [(long, short)]), long, short), 1)
        self.assertEqual(least_steps(Lot(chain + [(("f", LETTERS[1]), C), (C, short)]), long, short), 3)
        self.assertEqual(least_steps(Lot(chain + [(("f", LETTERS[1]), C), (C, ("f", B)), (C, A)]), long, short), 4)

    def test_the_least_of_several_rules(self):
        lot = Lot([AB, BC, (C, Z), (A, C), (("f", A, A), ("f", C, C))])
        self.assertEqual(least_steps(lot, A, Z), 2)
        self.assertEqual(least_steps(lot, ("f", A, A), ("f", C, C)), 1)
        self.assertEqual(least_steps(lot, ("f", A, A), ("f", Z, C)), 2)
        self.assertEqual(least_steps(lot, ("f", A, A), ("f", C, B)), 2)

    def test_trees_that_become_each_other(self):
        lot = Lot([AB, BC, (C, A), (("f", C), C)])
        self.assertEqual([least_steps(lot, A, C), least_steps(lot, C, A), least_steps(lot, B, A)], [2, 1, 2])
        self.assertEqual(least_steps(lot, ("f", ("f", A)), B), 6)

    def test_ways_through_other_trees(self):
        greater = Lot([(A, ("h", B, ("g", B))), (("g", C), C), (B, C), (("h", C, C), Z)])
        self.assertEqual(least_steps(greater, A, Z), 5)
        self.assertEqual(least_steps(greater, ("f", A, Z), ("f", Z, Z)), 5)
        less = Lot([(("f", A), C), (C, ("g", ("g", B)))])
        self.assertEqual(least_steps(less, ("f", A), ("g", ("g", B))), 2)
        self.assertEqual(least_steps(GROWING, A, Z), 1 + 2 * 4 + 1)

    def test_all_small_trees(self):
        lots = lots_by(2, 12, 4, SIGNS[:5]) + [GROWING, Lot([(A, ("a", B)), (("a", B), B), (("b", A), A)])]
        for lot in lots:
            for tree in trees_up_to(2, "abf"):
                near = trees_behind(lot, tree, 4)
                for other in trees_up_to(3, "abf"):
                    number = least_steps(lot, tree, other)
                    if other in near or number is not None and number <= 4:
                        self.assertEqual(number, near.get(other), (lot.rules(), tree, other))

    def test_all_trees_that_are_near(self):
        chance = random.Random(3)
        for lot in MANY:
            tree = tree_by(chance, 3, SIGNS)
            for other, number in trees_behind(lot, tree, 3).items():
                self.assertEqual(least_steps(lot, tree, other), number, (lot.rules(), tree, other))

    def test_very_great_numbers(self):
        for letter, number in zip(LETTERS, GREAT_NUMBERS):
            self.assertEqual(least_steps(GREAT, letter, Z), number)
        self.assertEqual(least_steps(GREAT, forty(A, B), forty(Z, Z)), 19 * 10922 + 9 * 2730)
        tree, goal = branches(31, 4, A), branches(31, 4, Z)
        self.assertEqual([size(tree), least_steps(GREAT, tree, goal)], [41, 31 * 10922])
        self.assertEqual(least_steps(GREAT, tree, Z), 31 * 10922 + 10)
        self.assertIsNone(least_steps(GREAT, tree, B))
        self.assertEqual(max(number for _, _, number in number_table(WILD, A, B)), 8283)

    def test_far_greater_numbers(self):
        # A lot has not rules enough for these, but what the numbers are worked out by takes any list of rules.
        letters = [("a" + letter,) for letter in "abcdefghijklmnopqrstuvwxy"] + [Z]
        rules = [(letters[k], fours(letters[k + 1])) for k in range(25)] + [(fours(Z), Z)]
        number = 0
        for k in reversed(range(25)):
            number = 4 * number + 2
            self.assertEqual(Table(rules, [letters[k]]).least(letters[k], Z), number)
        self.assertGreater(number, 10 ** 14)

    def test_trees_grow_without_end(self):
        self.assertEqual(least_steps(GROWING, forty(A, B), forty(Z, B)), 19 * 10)
        self.assertEqual(least_steps(GROWING, A, branches(13, 2, A)), 12)
        self.assertIsNone(least_steps(GROWING, forty(A, B), forty(Z, A)))
        self.assertIsNone(least_steps(GROWING, forty(A, B), Z))

    def test_eight_rules_and_twenty_four_told_parts(self):
        self.assertEqual([len(WIDE), len(WIDE.parts())], [8, 24])
        tree = ("f",) + (("pf", ("pg", ("ph", ("qa",))), ("pc",), ("pc",)),) * 4
        self.assertEqual(least_steps(WIDE, tree, ("f",) + (("rh", ("ra",)),) * 4), 4 * 4)
        self.assertIsNone(least_steps(WIDE, tree, ("f", ("rh", ("ra",)))))
        self.assertIsNone(least_steps(WIDE, tree, tree[:4] + (("ra",),)))


class TestNumberTable(unittest.TestCase):
    def test_told_parts_of_no_concern(self):
        lot = Lot([(("f", A), B)])
        self.assertEqual(number_table(lot, Z, Z), [(part, part, 0) for part in (A, B, Z)] + [
            (("f", A), B, 1), (("f", A), ("f", A), 0)])

    def test_no_rules(self):
        tree, other = ("f", A, ("g", A)), ("g", B)
        self.assertEqual(number_table(Lot([]), tree, other), [
            (part, part, 0) for part in (A, B, ("g", A), ("g", B), tree)])

    def test_parts_of_both_trees_become_each_other(self):
        lot = Lot([AB, (B, A)])
        self.assertEqual(number_table(lot, ("f", A), ("f", B)), [
            (A, A, 0), (A, B, 1), (B, A, 1), (B, B, 0), (("f", A), ("f", A), 0), (("f", A), ("f", B), 1),
            (("f", B), ("f", A), 1), (("f", B), ("f", B), 0)])

    def test_by_definition_and_in_order(self):
        chance = random.Random(4)
        for lot in MANY[:60] + [GROWING, WIDE]:
            tree, other = tree_by(chance, 3, SIGNS), tree_by(chance, 3, SIGNS)
            numbers = table_by_definition(lot, tree, other)
            told = parts_told(lot, tree, other)
            expected = [(one, two, numbers[one, two]) for one in told for two in told if (one, two) in numbers]
            self.assertEqual(number_table(lot, tree, other), expected, (lot.rules(), tree, other))

    def test_great_numbers_by_definition(self):
        for lot, tree, other in ((GREAT, forty(A, B), forty(Z, Z)), (WILD, ("k", ("d",), ("d",)), ("h", A, C))):
            numbers = table_by_definition(lot, tree, other)
            found = number_table(lot, tree, other)
            self.assertEqual({(one, two): number for one, two, number in found}, numbers)
            self.assertEqual(len(found), len(numbers))

    def test_returned_lists_are_new(self):
        lot = Lot([AB])
        before = number_table(lot, A, B)
        self.assertIsNot(before, number_table(lot, A, B))
        number_table(lot, A, B).clear()
        self.assertEqual(number_table(lot, A, B), before)


class TestBecomes(unittest.TestCase):
    def assertLeads(self, lot, tree, other, number):
        word, way = becomes(lot, tree, other)
        self.assertEqual([word, len(way)], ["yes", number])
        for step in way:
            behind = {(place, rule): after for place, rule, after in steps(lot, tree)}
            self.assertIn(step, behind)
            tree = behind[step]
        self.assertEqual(tree, other)

    def assertFenced(self, lot, tree, other):
        word, fence = becomes(lot, tree, other)
        self.assertEqual(word, "no")
        told = parts_told(lot, tree, other)
        for pair in fence:
            self.assertIsInstance(pair, tuple)
            self.assertEqual([len(pair), pair[0] in told, pair[1] in told], [2, True, True])
        self.assertEqual(len(set(fence)), len(fence))
        self.assertNotIn((tree, other), fence)
        self.assertTrue(is_closed_by_definition(lot, tree, other, fence))
        self.assertIs(is_fence(lot, tree, other, fence), True)

    def test_ways(self):
        self.assertEqual(becomes(Lot([]), A, A), ("yes", []))
        self.assertEqual(becomes(Lot([AB]), ("f", ("g", A)), ("f", ("g", B))), ("yes", [((0, 0), 0)]))
        self.assertEqual(becomes(Lot([BC, AB]), A, C), ("yes", [((), 1), ((), 0)]))
        self.assertLeads(Lot([AB, BC, (("f", C, B), Z)]), ("g", ("f", A, A)), ("g", Z), 4)

    def test_fences(self):
        for lot, tree, other in ((Lot([]), A, B), (Lot([AB]), B, A), (GROWING, forty(A, B), Z), (GREAT, Z, A)):
            self.assertFenced(lot, tree, other)

    def test_many(self):
        chance = random.Random(5)
        words = []
        for lot in MANY:
            tree = tree_by(chance, 3, SIGNS)
            for other in [tree_by(chance, 3, SIGNS), tree_by(chance, 2, SIGNS)] + list(trees_behind(lot, tree, 3))[-2:]:
                number = least_steps(lot, tree, other)
                words.append(becomes(lot, tree, other)[0])
                if number is None:
                    self.assertFenced(lot, tree, other)
                else:
                    self.assertLeads(lot, tree, other, number)
        self.assertGreater(min(words.count("yes"), words.count("no")), 100)

    def test_trees_of_forty_nodes_and_many_told_parts(self):
        self.assertEqual(size(forty(A, B)), 40)
        self.assertLeads(GROWING, forty(A, B), forty(Z, B), 190)
        self.assertFenced(GROWING, forty(A, B), forty(Z, A))
        tree = ("f",) + (("pf", ("pg", ("ph", ("qa",))), ("pc",), ("pc",)),) * 4
        self.assertLeads(WIDE, tree, ("f",) + (("rh", ("ra",)),) * 4, 16)
        self.assertFenced(WIDE, tree, ("f", ("rh", ("ra",))))

    def test_two_hundred_steps_and_more(self):
        tree, other = branches(25, 4, A), branches(25, 4, LETTERS[8])
        place = next(place for place in itertools.product(range(4), repeat=2) if part_at(tree, place) == A)
        self.assertLeads(CHAIN, tree, other, 200)
        self.assertLeads(CHAIN, put(tree, place, B), other, 199)
        more = put(tree, place, ("f", A, B)), put(other, place, ("f", LETTERS[8], C))
        self.assertEqual(least_steps(CHAIN, *more), 201)
        for start, goal, number in (more + (201,), (A, Z, 10922)):
            lot = CHAIN if number == 201 else GREAT
            with self.assertRaises(TooLong) as caught:
                becomes(lot, start, goal)
            self.assertEqual(caught.exception.number, number)

    def test_two_hundred_steps_one_behind_the_other(self):
        # Each of these steps is done at the top, or within what the one before put there.
        goal = ("f", nested(A, 1, lambda tree: ("g", tree)))
        lot = Lot([(A, ("g", A)), (("g", ("g", A)), B), (B, A), (A, C)])
        self.assertLeads(lot, ("f", A), goal, 1)
        lots = Lot([(A, fours(B)), (B, fours(C)), (C, Z), (fours(Z), Z)])
        self.assertLeads(lots, A, Z, 26)
        self.assertLeads(lots, ("f", A, A, A, ("f", A, A, A, fours(B))), ("f", Z, Z, Z, ("f", Z, Z, Z, Z)), 26 * 6 + 25)

    def test_equal_calls_have_equal_results(self):
        for lot, tree, other in ((GROWING, A, Z), (GROWING, Z, A), (WIDE, ("pb",), ("rh", ("ra",)))):
            same = Lot(copy.deepcopy(lot.rules()))
            first = becomes(lot, tree, other)
            second = becomes(same, copy.deepcopy(tree), copy.deepcopy(other))
            self.assertEqual(first, second)
            self.assertIsNot(first[1], second[1])
            first[1].clear()
            self.assertEqual(becomes(lot, tree, other), second)

    def test_lot_stays(self):
        rules = GROWING.rules()
        becomes(GROWING, A, Z)
        number_table(GROWING, A, Z)
        self.assertEqual(GROWING.rules(), rules)
        self.assertEqual(GROWING, Lot(rules))


NO_WAYS = [
    [((0,), 0), ((0,), 0)], [((0,), 1)], [((1,), 0)], [((), 0)], [((0,), 0), None], [((0,), False)], [((False,), 0)],
    [([0], 0)], [[(0,), 0]], (((0,), 0),), ((0,), 0), [((0,), 0, 0)], [((0,),)], {0: ((0,), 0)}, [((0,), 2)],
    [((0,), -2)], [((-1,), 0)], [], [((0,), 0), []],
]


class TestIsWay(unittest.TestCase):
    def test_ways_of_any_length(self):
        lot = Lot([AB, (B, A)])
        for length in (1, 3, 201, 2001):
            way = [((0,), k % 2) for k in range(length)]
            self.assertIs(is_way(lot, ("f", A), ("f", B), way), True)
            self.assertIs(is_way(lot, ("f", A), ("f", A), way), False)
            self.assertIs(is_way(lot, ("f", A), ("f", B), way + way[:1]), False)

    def test_empty_way(self):
        self.assertIs(is_way(Lot([]), A, A, []), True)
        self.assertIs(is_way(Lot([AB]), A, B, []), False)
        self.assertIs(is_way(Lot([]), A, A, ()), False)

    def test_ways_to_other_trees(self):
        lot = Lot([AB, BC])
        self.assertIs(is_way(lot, ("f", A, A), ("f", B, A), [((0,), 0)]), True)
        self.assertIs(is_way(lot, ("f", A, A), ("f", A, B), [((0,), 0)]), False)
        self.assertIs(is_way(lot, ("f", A, A), ("f", C, A), [((0,), 0)]), False)
        self.assertIs(is_way(lot, ("f", A, A), ("f", C, A), [((0,), 0), ((0,), 1)]), True)
        self.assertIs(is_way(lot, ("f", A, A), ("f", C, A), [((0,), 1), ((0,), 0)]), False)

    def test_trees_that_become_very_great(self):
        way = [((0,) * k, 0) for k in range(400)] + [((0,) * 400, 2)]
        self.assertIs(is_way(GROWING, A, Z, way), False)
        tree = after(GROWING, A, [((0,) * k, 0) for k in range(9)])
        self.assertIs(is_way(GROWING, A, tree, way[:9]), True)

    def test_values_near_to_a_way(self):
        lot = Lot([AB, (B, Z)])
        self.assertIs(is_way(lot, ("f", A), ("f", B), [((0,), 0)]), True)
        for value in NO_WAYS:
            before = copy.deepcopy(value)
            self.assertIs(is_way(lot, ("f", A), ("f", B), value), False, value)
            self.assertEqual(value, before)

    def test_any_value(self):
        lot = Lot([AB])
        for value in any_values():
            self.assertIs(is_way(lot, A, B, value), False)
            self.assertIs(is_way(lot, A, B, [value]), False)
            self.assertIs(is_way(lot, A, B, [((), 0), value]), False)
            self.assertIs(is_way(lot, A, A, value), value == [] and isinstance(value, list))
            if value != ():
                self.assertIs(is_way(lot, A, B, [(value, 0)]), False)
            if value != 0:
                self.assertIs(is_way(lot, A, B, [((), value)]), False)


class TestIsFence(unittest.TestCase):
    def test_all_lists_of_pairs(self):
        cases = [(Lot([AB]), B, A), (Lot([AB]), A, B), (Lot([AB, (B, A)]), A, B), (Lot([AB, BC]), C, B)]
        cases += [(Lot([BC]), B, A), (Lot([(A, ("f", A))]), ("f", A), A), (Lot([]), ("f", A), ("f", B))]
        for lot, tree, other in cases:
            told = parts_told(lot, tree, other)
            pairs = list(itertools.product(told, repeat=2))
            if len(told) > 3:
                pairs = [(part, part) for part in told[:2]] + pairs[:10]
                pairs = sorted(set(pairs))
            for chosen in itertools.product((False, True), repeat=len(pairs)):
                fence = [pair for pair, stands in zip(pairs, chosen) if stands]
                expected = (tree, other) not in fence and is_closed_by_definition(lot, tree, other, fence)
                self.assertIs(is_fence(lot, tree, other, fence), expected, (lot.rules(), tree, other, fence))

    def test_one_pair_more_or_less(self):
        chance = random.Random(6)
        seen = []
        for lot in MANY[:40]:
            tree, other = tree_by(chance, 3, SIGNS), tree_by(chance, 2, SIGNS)
            table = [(one, two) for one, two, _ in number_table(lot, tree, other)]
            self.assertIs(is_fence(lot, tree, other, table), least_steps(lot, tree, other) is None)
            for pair in table:
                self.assertIs(is_fence(lot, tree, other, [kept for kept in table if kept != pair]), False)
            for pair in itertools.product(parts_told(lot, tree, other), repeat=2):
                if pair not in table:
                    more = table + [pair]
                    expected = (tree, other) not in more and is_closed_by_definition(lot, tree, other, more)
                    self.assertIs(is_fence(lot, tree, other, more), expected)
                    seen.append(expected)
        self.assertGreater(min(seen.count(True), seen.count(False)), 50)

    def test_in_any_order(self):
        chance = random.Random(7)
        table = [(one, two) for one, two, _ in number_table(GROWING, Z, A)]
        for _ in range(20):
            chance.shuffle(table)
            self.assertIs(is_fence(GROWING, Z, A, table), True)
            self.assertIs(is_fence(GROWING, A, Z, table), False)

    def test_a_pair_twice(self):
        fence = becomes(GROWING, Z, A)[1]
        for pair in fence:
            self.assertIs(is_fence(GROWING, Z, A, fence + [pair]), False)
            self.assertIs(is_fence(GROWING, Z, A, [pair] + fence), False)
        self.assertIs(is_fence(GROWING, Z, A, fence * 50), False)

    def test_pairs_of_other_trees(self):
        fence = becomes(GROWING, Z, A)[1]
        for other in (("x",), ("f", A), ("f", A, B), ("f", A, A, A), ("f", ("f", A, A), A)):
            for pair in ((other, other), (other, A), (A, other)):
                self.assertIs(is_fence(GROWING, Z, A, fence + [pair]), False)

    def test_parts_of_the_two_trees_are_wanted(self):
        told = [(one, two) for one, two, _ in number_table(Lot([AB]), B, A)]
        self.assertIs(is_fence(Lot([AB]), B, A, told), True)
        self.assertIs(is_fence(Lot([AB]), ("f", B), A, told), False)
        self.assertIs(is_fence(Lot([AB]), B, ("f", A), told), False)
        self.assertIs(is_fence(Lot([AB]), B, ("f", A), told + [(("f", A), ("f", A))]), True)

    def test_trees_that_become_the_other_one(self):
        told = parts_told(GROWING, A, Z)
        everything = list(itertools.product(told, repeat=2))
        self.assertIs(is_fence(GROWING, A, Z, everything), False)
        self.assertIs(is_fence(GROWING, A, Z, [pair for pair in everything if pair != (A, Z)]), False)
        self.assertIs(is_fence(GROWING, A, A, [pair for pair in everything if pair != (A, A)]), False)

    def test_greater_fences(self):
        told = parts_told(Lot([AB]), B, A)
        everything = list(itertools.product(told, repeat=2))
        self.assertIs(is_fence(Lot([AB]), B, A, [pair for pair in everything if pair != (B, A)]), True)
        self.assertIs(is_fence(Lot([AB]), B, A, everything), False)
        self.assertIs(is_fence(Lot([AB]), B, Z, [pair for pair in everything] + [(Z, Z)]), True)
        self.assertIs(is_fence(Lot([AB]), B, Z, [pair for pair in everything]), False)

    def test_things_that_are_no_pairs(self):
        lot = Lot([AB])
        fence = [(A, A), (A, B), (B, B)]
        self.assertIs(is_fence(lot, B, A, fence), True)
        for value in (tuple(fence), {0: fence}, [fence], [list(pair) for pair in fence], fence + [None], fence + [()]):
            self.assertIs(is_fence(lot, B, A, value), False, value)
        for pair in ((A, A, A), (A,), [A, A], (["a"], A), (A, ["a"]), (("a", ()), A), "ab", (A, "a"), (0, True)):
            self.assertIs(is_fence(lot, B, A, fence + [pair]), False, pair)
            self.assertIs(is_fence(lot, B, A, fence[1:] + [pair]), False, pair)

    def test_any_value(self):
        lot = Lot([AB])
        fence = [(A, A), (A, B), (B, B)]
        for value in any_values():
            for other in (A, B):
                self.assertIs(is_fence(lot, B, other, value), False)
            for wrong in ([value], fence + [value], fence + [(value, A)], fence + [(A, value)], fence[1:] + [value]):
                before = copy.deepcopy(wrong)
                self.assertIs(is_fence(lot, B, A, wrong), False)
                self.assertEqual(wrong, before)
