"""Tests of graftrules.lots: points 3, 6 and 7."""

import inspect
import unittest

from graftrules import lots
from graftrules.errors import BadLot, NoRule, NoStep
from graftrules.lots import Lot, after, steps
from graftrules.trees import places
from tests.helper import any_values, nested, trees_up_to

A = ("a",)
B = ("b",)
C = ("c",)
AB = (A, B)
BC = (B, C)
LEAVES = [(letter,) for letter in "abcdefghijklmnop"]
# No two sides of these have a part in common, so two of the rules have twenty-four told parts.
WIDE = [
    tuple(
        (start + "f", (start + "g", (start + "h", (start + "a",))), (start + "b",), (start + "c",))
        for start in starts
    )
    for starts in ("pq", "rs", "tu")
]


def chain(levels):
    return nested(A, levels - 1, lambda tree: ("f", tree))


class LotCase(unittest.TestCase):
    def assertBad(self, number, rules):
        with self.assertRaises(BadLot) as caught:
            Lot(rules)
        self.assertEqual(repr(caught.exception.number), repr(number), rules)


class TestInterface(unittest.TestCase):
    def test_defined_in_its_file(self):
        for name in ("Lot", "steps", "after"):
            self.assertEqual(getattr(lots, name).__module__, "graftrules.lots")

    def test_methods_stand_in_the_class(self):
        for name in ("__init__", "rules", "parts", "__len__", "__contains__", "__eq__", "__add__", "turned", "without"):
            self.assertIn(name, vars(Lot))

    def test_names_of_arguments(self):
        lot = Lot(rules=[AB])
        self.assertEqual(lot.without(number=0), Lot([]))
        self.assertEqual(list(steps(lot=lot, tree=A)), [((), 0, B)])
        self.assertEqual(after(lot=lot, tree=A, way=[((), 0)]), B)


class TestNoList(LotCase):
    def test_any_value(self):
        for value in any_values():
            if value != []:
                self.assertBad(0, value)

    def test_rules_in_something_else(self):
        for value in ((AB,), (AB, BC), {AB: 0}, {0: AB}, AB, (), {}, None):
            self.assertBad(0, value)

    def test_eight_and_nine(self):
        rules = [(LEAVES[k], LEAVES[k + 1]) for k in range(9)]
        self.assertEqual(Lot(rules[:8]).rules(), rules[:8])
        self.assertBad(0, rules)
        self.assertBad(0, [AB] * 9)
        self.assertBad(0, rules[:8] + [None])
        self.assertBad(0, [None] * 9)
        self.assertBad(7, rules[:7] + [None])


class TestNoRule(LotCase):
    def test_any_value(self):
        for value in any_values():
            self.assertBad(0, [value])
            self.assertBad(1, [AB, value])
            self.assertBad(1, [AB, value, BC])
            self.assertBad(0, [(value, A)])
            self.assertBad(0, [(A, value)])
            self.assertBad(1, [AB, (B, ("f", value))])
            self.assertBad(0, [(value, value)])

    def test_number_of_sides(self):
        for value in ((A,), (A, B, C), (), ((A, B),), (A, B, 0), (AB, BC)):
            self.assertBad(1, [BC, value])

    def test_lists_in_the_place_of_tuples(self):
        for value in ([A, B], (["a"], B), (A, ["b"]), (("f", ["a"]), B), (A, ("f", A, ["b"]))):
            self.assertBad(1, [BC, value])

    def test_sides_that_are_alike(self):
        self.assertBad(0, [(A, A)])
        self.assertBad(1, [AB, (("f", A), ("f", A)), BC])
        self.assertEqual(len(Lot([(("f", A), ("f", B)), (("f", B), ("f", A))])), 2)

    def test_nodes_of_sides(self):
        six = [("f", A, A, A, ("f", A)), ("f", ("g", A, A), ("g", A)), ("f", A, ("f", A, ("f", A)))]
        seven = [("f", A, A, A, ("f", A, A)), ("f", ("g", A, A), ("g", A, A)), ("f", A, ("f", A, ("f", A, A)))]
        for side in six:
            self.assertEqual(Lot([(side, C), (C, side)]).rules(), [(side, C), (C, side)])
        for side in seven:
            self.assertBad(1, [AB, (side, C)])
            self.assertBad(1, [AB, (C, side)])

    def test_levels_of_sides(self):
        self.assertEqual(Lot([(chain(4), A), (A, chain(4))]).rules(), [(chain(4), A), (A, chain(4))])
        for side in (chain(5), chain(6), ("g", A, chain(4))):
            self.assertBad(1, [AB, (side, C)])
            self.assertBad(1, [AB, (C, side)])

    def test_names_and_children(self):
        five = ("f", A, A, A, A, A)
        for side in (five, ("A",), ("abcdefghi",), ("",), ("f", ("g1",))):
            self.assertBad(0, [(side, C)])
            self.assertBad(0, [(C, side)])

    def test_a_part_that_stands_in_very_many_places(self):
        double = nested(A, 48, lambda tree: ("f", tree, tree))
        self.assertBad(0, [(double, double)])
        self.assertBad(1, [AB, (A, double)])

    def test_a_rule_that_stands_there_before(self):
        self.assertBad(1, [AB, AB])
        self.assertBad(2, [AB, BC, AB])
        self.assertBad(3, [AB, BC, (B, A), (("b",), ("c",)), AB])
        self.assertEqual(len(Lot([AB, (B, A)])), 2)


class TestToldParts(LotCase):
    def test_twenty_four_and_twenty_five(self):
        self.assertEqual(len(Lot(WIDE[:2]).parts()), 24)
        self.assertBad(2, WIDE)
        self.assertBad(2, WIDE[:2] + [(WIDE[0][0], A)])
        self.assertBad(2, WIDE[:2] + [(A, WIDE[0][0])])
        self.assertBad(2, WIDE[:2] + [AB])

    def test_parts_in_common_count_once(self):
        turned = [(right, left) for left, right in WIDE[:2]]
        within = (WIDE[0][0][1], WIDE[1][1][2])
        self.assertEqual(len(Lot(WIDE[:2] + turned + [within]).parts()), 24)
        self.assertBad(5, WIDE[:2] + turned + [within, (WIDE[0][0], A), AB])

    def test_twenty_five_with_the_last_of_eight(self):
        rules = [WIDE[0], WIDE[1]] + [(WIDE[0][0], WIDE[1][0][k]) for k in (1, 2, 3)]
        rules += [(WIDE[0][1], WIDE[1][0][k]) for k in (1, 2)]
        self.assertEqual(len(Lot(rules + [(WIDE[0][1], WIDE[1][0])]).parts()), 24)
        self.assertBad(7, rules + [(WIDE[0][1], A)])

    def test_number_of_the_first_one(self):
        self.assertBad(0, [None] + WIDE)
        self.assertBad(1, [WIDE[0], WIDE[0], WIDE[1], WIDE[2]])
        self.assertBad(2, WIDE[:2] + [None, WIDE[2]])
        self.assertBad(2, WIDE + [None])
        self.assertBad(2, WIDE[:2] + [WIDE[2], WIDE[0], 0])
        self.assertBad(1, [AB, (A, A), AB, None])
        self.assertBad(1, [AB, AB, (A, A), None])
        self.assertBad(1, [AB, None, AB])

    def test_parts(self):
        rule = (("f", ("g", A), B), ("g", A))
        lot = Lot([rule, (C, ("f", C, A))])
        self.assertEqual(lot.parts(), [A, B, C, ("g", A), ("f", C, A), ("f", ("g", A), B)])
        self.assertEqual(Lot([]).parts(), [])


class TestLot(LotCase):
    def test_rules_in_their_order(self):
        self.assertEqual(Lot([BC, AB]).rules(), [BC, AB])
        self.assertEqual(Lot([]).rules(), [])

    def test_len(self):
        self.assertEqual([len(Lot([])), len(Lot([AB])), len(Lot([AB, BC]))], [0, 1, 2])

    def test_keeps_a_copy(self):
        rules = [AB, BC]
        lot = Lot(rules)
        self.assertEqual(rules, [AB, BC])
        rules.append((A, C))
        rules[0] = None
        self.assertEqual(lot.rules(), [AB, BC])
        self.assertEqual(len(lot), 2)
        self.assertEqual(lot.parts(), [A, B, C])
        self.assertEqual(list(steps(lot, A)), [((), 0, B)])

    def test_wrong_lists_stay(self):
        rules = [AB, ["x", [0]], BC]
        self.assertBad(1, rules)
        self.assertEqual(rules, [AB, ["x", [0]], BC])

    def test_returned_lists_are_new(self):
        lot = Lot([AB, BC])
        for told in (lot.rules, lot.parts):
            before = told()
            self.assertIsNot(before, told())
            told().clear()
            told().append(0)
            self.assertEqual(told(), before)
        self.assertEqual(len(lot), 2)
        self.assertIn(AB, lot)

    def test_contains(self):
        lot = Lot([AB, (("f", A), B)])
        for value in (AB, (("f", A), B)):
            self.assertIs(value in lot, True)
        for value in any_values() + [BC, (B, A), A, [A, B], (["a"], B), (A,), (A, B, C), [AB], lot, (("f", A), A)]:
            self.assertIs(value in lot, False, value)
            self.assertIs(value in Lot([]), False)

    def test_equal(self):
        self.assertIs(Lot([AB, BC]) == Lot([AB, BC]), True)
        self.assertIs(Lot([]) == Lot([]), True)
        self.assertIs(Lot([AB, BC]) != Lot([AB, BC]), False)

    def test_not_equal(self):
        lot = Lot([AB, BC])
        others = [Lot([BC, AB]), Lot([AB]), Lot([]), Lot([AB, BC, (A, C)]), Lot([AB, (C, B)])]
        for other in others + any_values() + [[AB, BC], (AB, BC), lot.rules()]:
            self.assertIs(lot == other, False, other)
            self.assertIs(other == lot, False, other)
            self.assertIs(lot != other, True, other)
        for value in any_values():
            self.assertIs(Lot([]) == value, False)


class TestPlus(LotCase):
    def test_puts_behind_what_it_does_not_have(self):
        one = Lot([AB, BC])
        other = Lot([(A, C), AB, (C, A)])
        self.assertEqual((one + other).rules(), [AB, BC, (A, C), (C, A)])
        self.assertEqual((other + one).rules(), [(A, C), AB, (C, A), BC])
        self.assertEqual((one + other).parts(), [A, B, C])
        self.assertEqual(one.rules(), [AB, BC])
        self.assertEqual(other.rules(), [(A, C), AB, (C, A)])
        self.assertIsInstance(one + other, Lot)

    def test_empty_and_itself(self):
        lot = Lot([AB, BC])
        self.assertEqual(lot + Lot([]), lot)
        self.assertEqual(Lot([]) + lot, lot)
        self.assertEqual(lot + lot, lot)
        self.assertEqual(Lot([]) + Lot([]), Lot([]))

    def test_too_many_rules(self):
        rules = [(LEAVES[k], LEAVES[k + 1]) for k in range(10)]
        one, other = Lot(rules[:5]), Lot(rules[3:8])
        self.assertEqual((one + other).rules(), rules[:8])
        for last in (Lot(rules[8:9]), Lot(rules[2:3] + rules[8:10])):
            with self.assertRaises(BadLot) as caught:
                (one + other) + last
            self.assertEqual(caught.exception.number, 0)
        self.assertEqual(one.rules(), rules[:5])

    def test_too_many_parts(self):
        one = Lot(WIDE[:2])
        for other, number in ((Lot([WIDE[0], AB]), 2), (Lot([(WIDE[0][0], WIDE[1][0]), AB, BC]), 3)):
            with self.assertRaises(BadLot) as caught:
                one + other
            self.assertEqual(caught.exception.number, number)
        self.assertEqual(one.rules(), WIDE[:2])


class TestTurnedAndWithout(LotCase):
    def test_turned(self):
        lot = Lot([AB, (("f", A), C), (B, A)])
        self.assertEqual(lot.turned().rules(), [(B, A), (C, ("f", A)), AB])
        self.assertEqual(lot.turned().turned(), lot)
        self.assertEqual(lot.turned().parts(), lot.parts())
        self.assertEqual(lot.rules(), [AB, (("f", A), C), (B, A)])
        self.assertEqual(Lot([]).turned(), Lot([]))

    def test_without(self):
        lot = Lot([AB, BC, (A, C)])
        self.assertEqual([lot.without(k).rules() for k in range(3)], [[BC, (A, C)], [AB, (A, C)], [AB, BC]])
        self.assertEqual(lot.rules(), [AB, BC, (A, C)])
        self.assertEqual(Lot([AB, BC]).without(1).parts(), [A, B])
        self.assertEqual(Lot([AB]).without(0), Lot([]))

    def test_numbers_of_no_rule(self):
        lot = Lot([AB, BC])
        wrong = [value for value in any_values() if value not in (0, 1)]
        for number in wrong + [True, False, 2, 3, -1, -2, "0", (0,), [0], AB, BC, [1, [0]]]:
            with self.assertRaises(NoRule) as caught:
                lot.without(number)
            self.assertEqual(repr(caught.exception.number), repr(number))
        self.assertEqual(lot.rules(), [AB, BC])
        self.assertRaises(NoRule, Lot([]).without, 0)


def steps_by_definition(rules, tree):
    """List what steps yields, from the definition: each child is taken out and built in again."""
    found = [((), number, right) for number, (left, right) in enumerate(rules) if tree == left]
    for k in range(1, len(tree)):
        for place, number, behind in steps_by_definition(rules, tree[k]):
            found.append(((k - 1,) + place, number, tree[:k] + (behind,) + tree[k + 1:]))
    return found


class TestSteps(unittest.TestCase):
    def test_is_a_generator(self):
        self.assertTrue(inspect.isgenerator(steps(Lot([AB]), A)))

    def test_no_steps(self):
        self.assertEqual(list(steps(Lot([]), A)), [])
        self.assertEqual(list(steps(Lot([AB]), ("f", B, ("a", B)))), [])

    def test_order_of_places_and_numbers(self):
        lot = Lot([(A, C), (("f", A), C), AB, (("g", ("f", A), A), A)])
        tree = ("g", ("f", A), A)
        self.assertEqual(list(steps(lot, tree)), [
            ((), 3, A),
            ((0,), 1, ("g", C, A)),
            ((0, 0), 0, ("g", ("f", C), A)),
            ((0, 0), 2, ("g", ("f", B), A)),
            ((1,), 0, ("g", ("f", A), C)),
            ((1,), 2, ("g", ("f", A), B)),
        ])

    def test_left_sides_that_are_the_same(self):
        lot = Lot([(A, C), AB, (A, ("f", A))])
        self.assertEqual(list(steps(lot, A)), [((), 0, C), ((), 1, B), ((), 2, ("f", A))])

    def test_left_sides_that_stand_in_one_another(self):
        lot = Lot([(A, B), (("f", A), B), (("f", ("f", A)), B)])
        self.assertEqual(list(steps(lot, chain(3))), [((), 2, B), ((0,), 1, ("f", B)), ((0, 0), 0, ("f", ("f", B)))])

    def test_all_small_trees(self):
        rules = [(A, ("a", B)), (("a", A), B), (A, B), (("b", A, A), A), (("a", ("b", B)), ("b", A)), (B, A)]
        lot = Lot(rules)
        for tree in trees_up_to(5, "ab"):
            found = list(steps(lot, tree))
            self.assertEqual(found, steps_by_definition(rules, tree))
            self.assertEqual(found, sorted(found, key=lambda step: step[:2]))


NO_STEPS = [
    ((), 0), ((1,), 0), ((0,), 1), ((0, 0), 0), ((2,), 0), ((-1,), 0), ((0,), 2), ((0,), -1), ((0,), -2), ((0,), True),
    ((0,), False), ((False,), 0), ((True,), 1), ((0,), "0"), ((0,), None), ((0,), (0,)), ((0,), [0]), ([0], 0), (0, 0),
    (None, 0), ((0,),), ((0,), 0, 0), ((0,), 0, True), [(0,), 0], {(0,): 0}, (), (0, (0,)), ((0,), ()), ([], 0), ({}, 0),
    ("", 0), (((0,), 0),), [((0,), 0)],
]


class TestAfter(unittest.TestCase):
    def setUp(self):
        # The steps of the tree are ((0,), 0) and ((1,), 1).
        self.lot = Lot([AB, (C, A)])
        self.tree = ("f", A, C, B)

    def assertNoStep(self, at, way):
        with self.assertRaises(NoStep) as caught:
            after(self.lot, self.tree, way)
        self.assertEqual(repr(caught.exception.at), repr(at), way)

    def test_empty_way(self):
        self.assertEqual(after(self.lot, self.tree, []), self.tree)
        self.assertEqual(after(Lot([]), A, []), A)

    def test_ways(self):
        way = [((1,), 1), ((0,), 0), ((1,), 0)]
        self.assertEqual(after(self.lot, self.tree, way[:1]), ("f", A, A, B))
        self.assertEqual(after(self.lot, self.tree, way[:2]), ("f", B, A, B))
        self.assertEqual(after(self.lot, self.tree, way), ("f", B, B, B))
        self.assertEqual(way, [((1,), 1), ((0,), 0), ((1,), 0)])

    def test_each_step(self):
        lot = Lot([(A, ("a", B)), (("a", A), B), (A, B), (("b", A, A), A), (B, A)])
        for tree in trees_up_to(4, "ab"):
            for place, number, behind in steps(lot, tree):
                self.assertEqual(after(lot, tree, [(place, number)]), behind)
                for further, other, last in steps(lot, behind):
                    self.assertEqual(after(lot, tree, [(place, number), (further, other)]), last)

    def test_places_and_numbers_of_no_step(self):
        lot = Lot([(("a", B), A), (("b", A, A), A), (B, A)])
        for tree in trees_up_to(4, "ab"):
            possible = [(place, number) for place, number, _ in steps(lot, tree)]
            for place, _ in places(tree):
                for number in range(3):
                    if (place, number) not in possible:
                        self.assertRaises(NoStep, after, lot, tree, [(place, number)])

    def test_no_list(self):
        for way in any_values() + [(((0,), 0),), ((0,), 0), {0: ((0,), 0)}]:
            if not isinstance(way, list):
                self.assertNoStep(0, way)

    def test_any_value_in_the_place_of_a_step(self):
        for value in NO_STEPS + any_values():
            self.assertNoStep(0, [value])
            self.assertNoStep(0, [value, ((1,), 1), value])
            self.assertNoStep(1, [((0,), 0), value, value])
            self.assertNoStep(2, [((1,), 1), ((1,), 0), value])

    def test_any_value_in_a_step(self):
        for value in any_values():
            if value != 0:
                self.assertNoStep(1, [((1,), 1), ((0,), value)])
            if value != (0,):
                self.assertNoStep(1, [((1,), 1), (value, 0)])
            self.assertNoStep(1, [((1,), 1), ((value, 0), 0)])
            self.assertNoStep(1, [((1,), 1), ((0, value), 0)])

    def test_steps_that_were_possible_before(self):
        self.assertNoStep(1, [((0,), 0), ((0,), 0)])
        self.assertNoStep(2, [((0,), 0), ((1,), 1), ((1,), 1), ((1,), 0)])
        self.assertNoStep(0, [((1,), 0), ((1,), 1)])

    def test_error_changes_nothing(self):
        way = [((0,), 0), [((0,), 0)]]
        self.assertNoStep(1, way)
        self.assertEqual(way, [((0,), 0), [((0,), 0)]])
        self.assertEqual(self.lot, Lot([AB, (C, A)]))
        self.assertEqual(self.tree, ("f", ("a",), ("c",), ("b",)))

    def test_trees_that_grow_beyond_all_limits(self):
        lot = Lot([(A, ("f", A, B))])
        tree = after(lot, A, [((0,) * k, 0) for k in range(600)])
        for _ in range(600):
            self.assertEqual((tree[0], tree[2:]), ("f", (B,)))
            tree = tree[1]
        self.assertEqual(tree, A)
