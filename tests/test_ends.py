"""Tests of graftrules.ends: points 3, 7, 12 and 13."""

import copy
import random
import time
import unittest

from graftrules import ends as ends_file
from graftrules.endings import ending, greatest
from graftrules.ends import all_meet, ends, is_still, least_split, meeting, overlaps
from graftrules.errors import GoesOn, TooLarge, TooMany
from graftrules.lots import Lot, steps
from graftrules.trees import places, put, size
from tests.helper import (A, AB, B, BC, C, CHAIN, D, GROWING, LETTERS, SIGNS, WIDE, WIDE_SIDES, WILD, Z, branches,
                          ends_by_going, forty, fours, growing, in_order, lots_by, nested, signs_of, tree_by,
                          trees_behind, trees_of)

E = ("e",)
MANY = lots_by(61, 200, 5, SIGNS)
ENDING = [lot for lot in MANY if ending(lot)[0] == "yes"]
# The example of the document: f(a) becomes c and f(g(d)).
SPLIT = Lot([(A, ("g", B)), (("f", ("g", B)), C), (B, D)])
# a becomes trees of 5, 21 and 85 nodes.
TALL = Lot([(A, fours(B)), (B, fours(C)), (C, fours(D))])
FOUR_HUNDRED = ("h", fours(A), ("g", B, B), ("g", C, C), ("f", Z, Z, Z))
# Each leaf a has seven ends, and each step leads to one of them.
SEVEN = Lot([(A, (letter,)) for letter in "stuvwxy"])


def overlaps_by_definition(lot):
    rules = list(enumerate(lot.rules()))
    return sorted((i, place, k) for i, (left, _) in rules for place, part in places(left)
                  for k, (other, _) in rules if part == other and (place != () or i < k))


def outcomes(lot, overlap):
    i, place, k = overlap
    left, right = lot.rules()[i]
    return right, put(left, place, lot.rules()[k][1])


def meeting_by_going(lot, tree, other, most):
    """Return the least number of steps of two ways of at most so many steps to one tree, None if there are none."""
    one, two = trees_behind(lot, tree, most), trees_behind(lot, other, most)
    return min([one[goal] + two[goal] for goal in one if goal in two], default=None)


class TestInterface(unittest.TestCase):
    def test_defined_in_its_file(self):
        for name in ("meeting", "overlaps", "all_meet", "is_still", "ends", "least_split"):
            self.assertEqual(getattr(ends_file, name).__module__, "graftrules.ends")

    def test_names_of_arguments(self):
        lot = Lot([AB])
        self.assertEqual(meeting(other=B, tree=A, lot=lot), 1)
        self.assertEqual(overlaps(lot=lot), [])
        self.assertEqual(all_meet(lot=lot), ("yes", []))
        self.assertIs(is_still(tree=A, lot=lot), False)
        self.assertEqual(ends(limit=1, tree=A, lot=lot), [B])
        self.assertIsNone(least_split(lot=lot))

    def test_limit_is_passed_by_name(self):
        self.assertRaises(TypeError, ends, Lot([AB]), A, 50)


class TestMeeting(unittest.TestCase):
    def test_a_tree_with_itself_alone_has_none_to_go(self):
        for lot in (Lot([]), Lot([AB, (B, A)]), GROWING, WIDE):
            for tree in (A, ("f", A, B), forty(A, B)):
                self.assertEqual(meeting(lot, tree, tree), 0)
        self.assertEqual(meeting(Lot([AB, (B, A)]), A, B), 1)
        self.assertEqual(meeting(Lot([AB, (B, A)]), ("f", A, B), ("f", B, A)), 2)

    def test_trees_that_do_not_meet(self):
        for one, other in ((A, B), (("f", A), ("g", A)), (("f", A), ("f", A, A)), (A, ("f", A))):
            self.assertIsNone(meeting(Lot([]), one, other))
            self.assertIsNone(meeting(Lot([]), other, one))
        self.assertIsNone(meeting(SPLIT, C, ("f", ("g", D))))
        self.assertIsNone(meeting(GROWING, B, Z))

    def test_one_becomes_the_other_one(self):
        lot = Lot([AB, BC])
        self.assertEqual([meeting(lot, A, C), meeting(lot, C, A), meeting(lot, B, A)], [2, 2, 1])

    def test_both_become_a_third_one(self):
        lot = Lot([(A, C), BC, (C, D), (("f", C, D), Z)])
        self.assertEqual([meeting(lot, A, B), meeting(lot, B, A)], [2, 2])
        self.assertEqual(meeting(lot, ("g", A, A, D), ("g", B, A, B)), 4)
        self.assertEqual(meeting(lot, ("f", A, B), Z), 1 + 2 + 1)
        self.assertEqual(meeting(lot, Z, ("f", A, B)), 1 + 2 + 1)

    def test_the_least_of_several(self):
        # They meet within their children by four steps, and at the top by three.
        lot = Lot([AB, BC, (C, D), (E, D), (("f", D), Z), (("f", A), Z)])
        for one, other in ((("f", A), ("f", E)), (("f", E), ("f", A))):
            self.assertEqual(meeting(lot, one, other), 3)
            self.assertEqual(meeting(lot.without(5), one, other), 4)
            self.assertEqual(meeting(lot.without(4), one, other), 4)
            self.assertEqual(meeting(lot + Lot([(E, B)]), one, other), 2)
        self.assertEqual(meeting(lot, ("g", ("f", A), E), ("g", ("f", E), D)), 4)

    def test_trees_on_the_way_of_which_none_is_a_part(self):
        lot = Lot([(A, ("g", ("g", B))), (("g", B), C), (Z, ("g", D)), (D, C)])
        self.assertEqual(meeting(lot, A, Z), 1 + 1 + 1 + 1)
        self.assertEqual(meeting(lot, ("h", Z, A), ("h", A, Z)), 8)

    def test_all_trees_that_both_become(self):
        chance = random.Random(62)
        seen = []
        for lot in MANY:
            start = tree_by(chance, 3, SIGNS)
            near = list(trees_behind(lot, start, 2))
            for one, other in ((near[0], near[-1]), (near[-1], near[len(near) // 2]), (start, tree_by(chance, 2, SIGNS))):
                number = meeting(lot, one, other)
                expected = meeting_by_going(lot, one, other, 4)
                self.assertEqual(meeting(lot, other, one), number)
                self.assertIs(number == 0, one == other)
                # Two ways of at most four steps together have at most four steps each.
                if expected is not None and expected <= 4 or number is not None and number <= 4:
                    self.assertEqual(number, expected, (lot.rules(), one, other))
                    seen.append(number)
        self.assertGreater(len([number for number in seen if number > 1]), 30)

    def test_all_trees_of_lots_that_end(self):
        chance = random.Random(63)
        seen = []
        for lot in [growing(chance) for _ in range(40)]:
            trees = [tree_by(chance, 2, [("f", 2), ("g", 1), ("a", 0), ("b", 0), ("c", 0)]) for _ in range(4)]
            behind = [trees_behind(lot, tree, 30) for tree in trees]
            for one, near in zip(trees, behind):
                for other, far in zip(trees, behind):
                    expected = min([near[goal] + far[goal] for goal in near if goal in far], default=None)
                    self.assertEqual(meeting(lot, one, other), expected, (lot.rules(), one, other))
                    seen.append(expected)
        self.assertGreater(min(seen.count(None), len([number for number in seen if number is not None])), 50)

    def test_lots_that_do_not_end(self):
        self.assertEqual(meeting(GROWING, A, Z), 10)
        self.assertEqual(meeting(GROWING, forty(A, B), forty(Z, B)), 19 * 10)
        self.assertIsNone(meeting(GROWING, forty(A, B), forty(B, A[:1] + (Z,))))
        self.assertEqual(meeting(Lot([(A, ("f", A)), (B, ("f", B))]), ("f", A), ("f", ("f", A))), 1)
        self.assertIsNone(meeting(Lot([(A, ("f", A)), (B, ("f", B))]), A, B))
        self.assertEqual(meeting(Lot([(A, ("f", A)), (B, ("f", B)), (B, C), (A, C)]), A, ("f", ("f", B))), 4)

    def test_great_numbers(self):
        great = Lot([(LETTERS[k], fours(LETTERS[k + 1])) for k in range(8)])
        goal = LETTERS[8]
        for k in range(4):
            goal = fours(goal)
        self.assertEqual(meeting(great, A, LETTERS[1]), None)
        self.assertEqual(meeting(great, LETTERS[4], goal), 1 + 4 + 16 + 64)
        self.assertEqual(meeting(great, A, fours(fours(fours(fours(LETTERS[4]))))), 85)
        self.assertEqual(meeting(CHAIN, branches(25, 4, A), branches(25, 4, LETTERS[8])), 200)
        self.assertEqual(meeting(CHAIN, branches(31, 4, A), branches(31, 4, LETTERS[8])), 248)

    def test_eight_rules_and_twenty_four_told_parts(self):
        self.assertEqual(meeting(WIDE, ("pa",), ("qa",)), 1)
        self.assertEqual(meeting(WIDE, ("pb",), ("rh", ("ra",))), 3)
        self.assertEqual(meeting(WIDE, ("pc",), ("rh", ("ra",))), 4)
        self.assertIsNone(meeting(WIDE, ("ra",), ("rh", ("ra",))))
        for one in WILD.parts():
            for other in WILD.parts():
                number = meeting(WILD, one, other)
                self.assertEqual(meeting(WILD, other, one), number)
                self.assertIs(number == 0, one == other)


class TestOverlaps(unittest.TestCase):
    def test_none(self):
        self.assertEqual(overlaps(Lot([])), [])
        self.assertEqual(overlaps(CHAIN), [])
        self.assertEqual(overlaps(Lot([(("f", A, ("f", A)), B)])), [])
        # Right sides have none, and neither have left sides that only meet in a part.
        self.assertEqual(overlaps(Lot([(A, ("f", B)), (("f", C), ("g", A)), (("g", C), B)])), [])

    def test_left_sides_that_are_the_same(self):
        self.assertEqual(overlaps(Lot([AB, (A, C)])), [(0, (), 1)])
        self.assertEqual(overlaps(Lot([AB, (A, C), (A, D)])), [(0, (), 1), (0, (), 2), (1, (), 2)])
        same = ("f", B, ("g", C))
        self.assertEqual(overlaps(Lot([(same, A), BC, (same, D)])), [(0, (), 2), (0, (0,), 1), (2, (0,), 1)])

    def test_deep_within(self):
        lot = Lot([(("f", ("g", B), ("g", ("g", B))), A), (B, C), (("g", B), D)])
        expected = [(0, (0,), 2), (0, (0, 0), 1), (0, (1, 0), 2), (0, (1, 0, 0), 1), (2, (0,), 1)]
        self.assertEqual(overlaps(lot), expected)
        self.assertEqual(overlaps(SPLIT), [(1, (0, 0), 2)])
        self.assertEqual(overlaps(Lot([(("f", A, A, A, ("f", A)), B), (A, C)])), [
            (0, (0,), 1), (0, (1,), 1), (0, (2,), 1), (0, (3, 0), 1)])

    def test_a_later_rule_with_an_earlier_one(self):
        self.assertEqual(overlaps(Lot([AB, (("f", A), C)])), [(1, (0,), 0)])
        self.assertEqual(overlaps(Lot([(("f", A), C), AB])), [(0, (0,), 1)])

    def test_by_definition(self):
        seen = 0
        for lot in MANY + [GROWING, WIDE, WILD, SPLIT]:
            self.assertEqual(overlaps(lot), overlaps_by_definition(lot), lot.rules())
            seen += len(overlaps(lot))
        self.assertGreater(seen, 60)

    def test_very_many(self):
        lot = Lot([(A, letter) for letter in LETTERS[1:5]] + [(fours(A), letter) for letter in LETTERS[1:5]])
        self.assertEqual(len(overlaps(lot)), 6 + 6 + 4 * 4 * 4)
        self.assertEqual(overlaps(lot), overlaps_by_definition(lot))


class TestAllMeet(unittest.TestCase):
    def test_no_overlaps(self):
        self.assertEqual(all_meet(Lot([])), ("yes", []))
        self.assertEqual(all_meet(CHAIN), ("yes", []))

    def test_numbers_in_the_order_of_overlaps(self):
        lot = Lot([(("f", A), Z), (A, B), (A, C), (("f", B), D), (("f", C), Z), (B, C), (D, Z)])
        self.assertEqual(overlaps(lot), [(0, (0,), 1), (0, (0,), 2), (1, (), 2), (3, (0,), 5)])
        self.assertEqual(all_meet(lot), ("yes", [2, 1, 1, 2]))
        turned = Lot(lot.rules()[::-1])
        self.assertEqual(overlaps(turned), [(3, (0,), 1), (4, (), 5), (6, (0,), 4), (6, (0,), 5)])
        self.assertEqual(all_meet(turned), ("yes", [2, 1, 1, 2]))

    def test_outcomes_that_are_the_same(self):
        self.assertEqual(all_meet(Lot([(("f", A), ("f", B)), AB])), ("yes", [0]))

    def test_the_first_one_that_does_not_meet(self):
        self.assertEqual(all_meet(Lot([AB, (A, C)])), ("no", (0, (), 1)))
        lot = Lot([(("f", A), ("f", B)), AB, (A, C), (("g", A), A)])
        self.assertEqual(all_meet(lot), ("no", (0, (0,), 2)))
        self.assertEqual(all_meet(lot.without(0)), ("no", (0, (), 1)))
        self.assertEqual(all_meet(SPLIT), ("no", (1, (0, 0), 2)))

    def test_many(self):
        words = []
        for lot in MANY:
            numbers = [meeting(lot, *outcomes(lot, overlap)) for overlap in overlaps_by_definition(lot)]
            if None in numbers:
                expected = "no", overlaps_by_definition(lot)[numbers.index(None)]
            else:
                expected = "yes", numbers
            self.assertEqual(all_meet(lot), expected, lot.rules())
            words.append(expected[0] + ("s" if numbers else ""))
        self.assertGreater(min(words.count("nos"), words.count("yess")), 10)

    def test_all_forks_of_lots_that_do_not_end(self):
        chance = random.Random(64)
        for lot in MANY:
            if all_meet(lot)[0] == "yes" and overlaps(lot):
                for tree in [tree_by(chance, 3, SIGNS) for _ in range(4)] + [left for left, _ in lot.rules()]:
                    behind = in_order([other for _, _, other in steps(lot, tree)])
                    for other in behind[1:]:
                        self.assertIsNotNone(meeting(lot, behind[0], other), (lot.rules(), tree))

    def test_growing_and_wide_lots(self):
        self.assertEqual(all_meet(GROWING), ("no", (0, (), 2)))
        self.assertEqual(all_meet(Lot([(A, ("f", A, B)), (A, ("f", B, A)), AB])), ("no", (0, (), 2)))
        self.assertEqual(all_meet(Lot([(A, ("f", A)), (A, B), (("f", B), B)])), ("yes", [2]))
        self.assertEqual(all_meet(WIDE)[0], "no")

    def test_very_many_overlaps(self):
        lot = Lot([(A, B), (A, C), (fours(A), B), (fours(A), C), (B, Z), (C, Z), (fours(Z), Z), (A, Z)])
        told = all_meet(lot)
        self.assertEqual([told[0], len(told[1])], ["yes", 3 + 1 + 2 * 4 * 3])
        self.assertEqual(told[1], [meeting(lot, *outcomes(lot, overlap)) for overlap in overlaps(lot)])
        # Each outcome f(b, a, a, a) meets b where both are z: by one step of b, one of each leaf, and the last rule.
        self.assertEqual(told[1][overlaps(lot).index((2, (0,), 0))], 1 + 4 + 1)

    def test_returned_lists_are_new(self):
        lot = Lot([(("f", A), ("f", B)), AB])
        for ask in (overlaps, lambda told: all_meet(told)[1]):
            before = copy.deepcopy(ask(lot))
            self.assertIsNot(ask(lot), ask(lot))
            ask(lot).clear()
            self.assertEqual(ask(lot), before)
            self.assertEqual(ask(Lot(copy.deepcopy(lot.rules()))), before)


class TestIsStill(unittest.TestCase):
    def test_no_rules(self):
        self.assertIs(is_still(Lot([]), A), True)

    def test_left_sides_anywhere(self):
        lot = Lot([(("g", B), C), (A, C)])
        for tree in (A, ("g", B), ("f", B, ("g", B)), ("f", ("f", ("f", ("f", A)))), ("g", ("g", B)), ("g", A)):
            self.assertIs(is_still(lot, tree), False, tree)
        for tree in (B, C, ("g", C), ("g", B, B), ("f", B, ("g", ("g", C))), ("a", B), ("g",), forty(B, C)):
            self.assertIs(is_still(lot, tree), True, tree)

    def test_all_small_trees(self):
        for lot in MANY[:40]:
            for trees in trees_of(SIGNS, 3):
                for tree in trees:
                    self.assertIs(is_still(lot, tree), not list(steps(lot, tree)), (lot.rules(), tree))


class EndsCase(unittest.TestCase):
    def assertTooMany(self, limit, lot, tree):
        with self.assertRaises(TooMany) as caught:
            ends(lot, tree, limit=limit)
        self.assertEqual(caught.exception.limit, limit)

    def assertTooLarge(self, nodes, lot, tree, **more):
        with self.assertRaises(TooLarge) as caught:
            ends(lot, tree, **more)
        self.assertEqual(caught.exception.nodes, nodes)


class TestEnds(EndsCase):
    def test_still_trees_have_themselves(self):
        for lot in (Lot([]), CHAIN, SPLIT):
            self.assertEqual(ends(lot, Z), [Z])
            self.assertEqual(ends(lot, ("x", Z, ("y",)), limit=1), [("x", Z, ("y",))])

    def test_in_order(self):
        lot = Lot([(A, ("z", Z)), (A, ("x", B)), (A, D), (A, ("b", ("b", C))), (B, ("y",)), (B, C)])
        expected = [D, ("x", C), ("x", ("y",)), ("z", Z), ("b", ("b", C)), ("b", ("b", ("y",)))]
        self.assertEqual(ends(lot, A), in_order(expected[:4] + [("b", ("b", C))]))
        self.assertEqual(ends(lot, ("f", B, A))[0], ("f", C, D))
        self.assertEqual(ends(lot, ("f", B, A)), ends_by_going(lot, ("f", B, A)))

    def test_ends_of_trees_on_the_way(self):
        self.assertEqual(ends(SPLIT, ("f", A)), [C, ("f", ("g", D))])
        self.assertEqual(ends(SPLIT, ("h", ("f", A), ("f", A)))[:2], [("h", C, C), ("h", C, ("f", ("g", D)))])
        # An end within the children that is a left side is none.
        lot = Lot([AB, (A, C), (("f", B), D)])
        self.assertEqual(ends(lot, ("f", A)), [D, ("f", C)])
        self.assertEqual(ends(lot, ("f", ("f", A))), [("f", D), ("f", ("f", C))])

    def test_one_end_by_several_ways(self):
        lot = Lot([(A, B), (A, C), (B, D), (C, D), (("f", B), ("f", D))])
        self.assertEqual(ends(lot, ("f", A), limit=1), [("f", D)])

    def test_all_trees_that_a_tree_becomes(self):
        chance = random.Random(65)
        seen = []
        lots = ENDING + [growing(chance) for _ in range(60)]
        for lot in lots:
            signs = signs_of(lot) or SIGNS
            for tree in [tree_by(chance, 2, signs) if ("g", 1) in signs else tree_by(chance, 3, SIGNS) for _ in range(5)]:
                expected = ends_by_going(lot, tree)
                for limit in (1, 2, 3, 4, 50):
                    if greatest(lot, tree)[1] > 6:
                        self.assertTooLarge(greatest(lot, tree)[0], lot, tree, limit=limit)
                    elif len(expected) > limit:
                        self.assertTooMany(limit, lot, tree)
                    else:
                        self.assertEqual(ends(lot, tree, limit=limit), expected, (lot.rules(), tree))
                seen.append(len(expected))
        self.assertGreater(len([many for many in seen if many > 1]), 40)
        self.assertGreater(max(seen), 4)

    def test_a_child_with_more_ends_than_the_limit(self):
        lot = Lot([AB, (A, C), (("f", B), D), (("f", C), D)])
        self.assertEqual(ends(lot, ("f", A), limit=1), [D])
        self.assertTooMany(1, lot, A)
        self.assertTooMany(1, lot, ("g", A))
        lot = Lot([AB, (A, C), (A, D), (("f", B), Z), (("f", C), Z)])
        self.assertTooMany(1, lot, ("f", A))
        self.assertEqual(ends(lot, ("f", A), limit=2), [Z, ("f", D)])
        lot = lot + Lot([(("f", D), Z)])
        self.assertEqual(ends(lot, ("f", A), limit=1), [Z])
        self.assertEqual(ends(lot, ("h", ("f", A), ("f", A)), limit=1), [("h", Z, Z)])
        # Here ends are left out twice, one level above the other.
        lot = Lot([AB, (A, C), (A, D), (("f", B), B), (("f", C), B), (("f", D), C), (("f", ("f", B)), C)])
        for tree in (("f", A), ("f", ("f", A)), ("f", ("f", ("f", A))), ("f", ("f", ("f", ("f", A))))):
            self.assertEqual(ends(lot, tree), ends_by_going(lot, tree))
        lot = Lot([AB, (A, C), (A, D), (A, Z), (("f", B), C), (("f", C), C), (("f", D), C), (("f", Z), B)])
        self.assertEqual(ends(lot, A), [B, C, D, Z])
        self.assertEqual(ends(lot, ("f", A)), [B, C])
        self.assertEqual(ends(lot, ("f", ("f", A)), limit=1), [C])

    def test_rights_with_more_ends_than_the_limit(self):
        lot = Lot([(Z, ("f", A)), AB, (A, C), (("f", B), D), (("f", C), D)])
        self.assertEqual(ends(lot, Z, limit=1), [D])
        self.assertTooMany(1, lot.without(4), Z)
        self.assertTooMany(1, lot, A)

    def test_ends_of_parts_that_do_not_matter(self):
        # a has many ends, but the tree becomes nothing in which it stands.
        lot = Lot([(A, (letter,)) for letter in "stuvwx"] + [(B, C), (("f", A), Z)])
        self.assertEqual(ends(lot, ("f", B), limit=1), [("f", C)])

    def test_just_as_many_and_one_more(self):
        for limit in range(1, 8):
            lot = Lot([(A, (letter,)) for letter in "stuvwxy"[:limit]])
            self.assertEqual(len(ends(lot, A, limit=limit)), limit)
            self.assertEqual(ends(lot, ("f", A), limit=limit), [("f", tree) for tree in ends(lot, A)])
            if limit > 1:
                self.assertTooMany(limit - 1, lot, A)
                self.assertTooMany(limit - 1, lot, ("f", A))
        self.assertTooMany(6, SEVEN, ("g", ("f", A)))
        self.assertEqual(len(ends(SEVEN, ("g", A, ("f", A)))), 49)
        self.assertEqual(len(ends(SEVEN, ("g", A, ("f", A)), limit=49)), 49)
        self.assertTooMany(48, SEVEN, ("g", A, ("f", A)))

    def test_fifty_ends_and_more(self):
        lot = Lot([(A, (letter,)) for letter in "stuvw"] + [(B, C), (B, D)])
        tree = ("f", A, A, B)
        self.assertEqual(ends(lot, tree), ends_by_going(lot, tree))
        self.assertEqual(len(ends(lot, tree, limit=50)), 50)
        self.assertTooMany(49, lot, tree)
        # One end is left out for two others.
        more = lot + Lot([(("f", ("s",), ("s",), C), ("g", B))])
        self.assertEqual(len(ends_by_going(more, tree)), 51)
        self.assertTooMany(50, more, tree)
        with self.assertRaises(TooMany) as caught:
            ends(more, tree)
        self.assertEqual(caught.exception.limit, 50)

    def test_ends_without_number(self):
        for tree in (branches(25, 4, A), fours(fours(A)), ("g", fours(A)), nested(fours(A), 4, lambda tree: ("g", tree))):
            for limit in (1, 50):
                self.assertTooMany(limit, SEVEN, tree)
        lot = Lot([(A, fours(B))] + [(B, (letter,)) for letter in "stuvwxy"])
        self.assertTooMany(50, lot, branches(25, 4, A))
        # All ends of the children are left sides here, so there are no more than of the right sides.
        lot = Lot([AB, (A, C), (("f", B, B), D), (("f", B, C), D), (("f", C, B), D), (("f", C, C), D)])
        self.assertEqual(ends(lot, ("f", A, A), limit=1), [D])
        self.assertTooMany(3, lot, fours(A))
        self.assertEqual(ends(lot, fours(("f", A, A)), limit=1), [fours(D)])

    def test_time_does_not_depend_on_how_many_there_are(self):
        # Each child has 49 ends here, so the four of them have some millions of rows of ends.
        start = time.process_time()
        self.assertTooMany(50, SEVEN, ("k",) + (("f", A, A),) * 4)
        self.assertTooMany(50, SEVEN, ("k",) + (("f", ("g", A, A), Z),) * 4)
        self.assertLess(time.process_time() - start, 2)

    def test_four_hundred_nodes_and_six_levels(self):
        self.assertEqual(greatest(TALL, FOUR_HUNDRED), (400, 6))
        self.assertEqual([size(tree) for tree in ends(TALL, FOUR_HUNDRED)], [400])
        more = FOUR_HUNDRED[:4] + (fours(Z),)
        self.assertTooLarge(401, TALL, more)
        self.assertEqual(greatest(TALL, ("g", ("g", A))), (87, 6))
        self.assertEqual([size(tree) for tree in ends(TALL, ("g", ("g", A)))], [87])
        self.assertTooLarge(88, TALL, ("g", ("g", ("g", A))))
        seven = nested(Z, 6, lambda tree: ("g", tree))
        self.assertTooLarge(7, Lot([]), seven)
        self.assertEqual(ends(Lot([]), seven[1]), [seven[1]])

    def test_trees_that_are_too_large_only_on_the_way(self):
        lot = TALL + Lot([(("f", fours(D)), D), (D, Z)])
        self.assertEqual(greatest(lot, FOUR_HUNDRED)[0], 400)
        lot = Lot([(A, nested(B, 3, lambda tree: ("g", tree))), (B, nested(C, 3, lambda tree: ("g", tree))), (("g", C), C)])
        self.assertEqual(ends(lot, B), [C])
        self.assertTooLarge(7, lot, A)

    def test_too_large_comes_ahead_of_too_many(self):
        lot = TALL + Lot([(Z, ("y",)), (Z, ("x",))])
        self.assertTooMany(7, lot, FOUR_HUNDRED)
        self.assertEqual(len(ends(lot, FOUR_HUNDRED, limit=8)), 8)
        for limit in (1, 50):
            self.assertTooLarge(401, lot, FOUR_HUNDRED[:4] + (fours(Z),), limit=limit)
        self.assertTooLarge(10, SEVEN, nested(fours(A), 5, lambda tree: ("g", tree)), limit=1)

    def test_goes_on_comes_first(self):
        for lot in (TALL + Lot([(Z, ("f", Z))]), SEVEN + Lot([(Z, Z[:1] + (Z,))])):
            for tree in (A, Z, B, FOUR_HUNDRED, fours(A), nested(A, 9, lambda tree: ("g", tree))):
                for limit in (1, 50):
                    self.assertRaises(GoesOn, ends, lot, tree, limit=limit)

    def test_eight_rules_and_twenty_four_told_parts(self):
        rules = [WIDE.rules()[number] for number in (0, 1, 2, 6, 7)]
        wide = Lot(rules + [(("pb",), ("qb",)), (("sb",), ("sc",)), (("sa",), ("ra",))])
        self.assertEqual([len(wide), len(wide.parts()), ending(wide)[0]], [8, 24, "yes"])
        for tree in (WIDE_SIDES[0], ("f", WIDE_SIDES[0], WIDE_SIDES[2], ("pb",)), ("g", ("f", WIDE_SIDES[0]))):
            self.assertEqual(ends(wide, tree), ends_by_going(wide, tree))
        self.assertTooMany(50, wide, ("g", ("f",) + (WIDE_SIDES[0],) * 4, ("f", WIDE_SIDES[0], ("sa",))))

    def test_returned_lists_are_new(self):
        tree = ("f", A)
        before = ends(SPLIT, tree)
        self.assertIsNot(ends(SPLIT, tree), ends(SPLIT, tree))
        ends(SPLIT, tree).clear()
        self.assertEqual(ends(Lot(copy.deepcopy(SPLIT.rules())), copy.deepcopy(tree)), before)
        self.assertEqual(SPLIT.rules(), [(A, ("g", B)), (("f", ("g", B)), C), (B, D)])


class TestLeastSplit(EndsCase):
    def least_by_going(self, lot, most):
        for trees in trees_of(signs_of(lot), most):
            for tree in sorted(trees):
                if len(ends_by_going(lot, tree)) > 1:
                    return tree
        return None

    def test_none(self):
        for lot in (Lot([]), Lot([AB, BC]), CHAIN, Lot([AB, (A, C), (B, D), (C, D)]), TALL):
            self.assertIsNone(least_split(lot))

    def test_left_sides_and_less(self):
        self.assertEqual(least_split(Lot([AB, (A, C)])), A)
        self.assertEqual(least_split(SPLIT), ("f", A))
        self.assertEqual(least_split(Lot([(("f", A), C), (A, B)])), ("f", A))
        self.assertEqual(least_split(Lot([(("f", A, A), C), (A, B), (Z, ("f", A, A))])), Z)
        lot = Lot([(("f", ("g", C)), A), (C, B), (("g", B), ("g", D)), (("k",), ("g", C)), (Z, ("f", ("k",)))])
        self.assertEqual(least_split(lot), Z)
        self.assertEqual(least_split(lot.without(4)), ("f", ("k",)))

    def test_the_least_in_the_order_of_trees(self):
        self.assertEqual(least_split(Lot([(Z, B), (Z, C), (A, D), (A, C)])), A)
        self.assertEqual(least_split(Lot([(("f", ("a", A)), B), (("f", ("a", A)), C), (("f", D, D), B), (("f", D, D), A)])),
                         ("f", ("a", A)))

    def test_six_nodes(self):
        left = ("f", ("g", A, ("g", B)), C)
        self.assertEqual([size(left), least_split(Lot([(left, A), (left, B)]))], [6, left])
        self.assertEqual(least_split(Lot([(left, A), (B, D)])), left)

    def test_all_trees_of_few_nodes(self):
        chance = random.Random(66)
        seen = []
        lots = [lot for lot in lots_by(67, 400, 5, [("a", 0), ("b", 0), ("f", 1), ("h", 2)]) if ending(lot)[0] == "yes"]
        for lot in lots + [growing(chance) for _ in range(10)]:
            if all_meet(lot)[0] == "yes":
                self.assertIsNone(least_split(lot))
                self.assertIsNone(self.least_by_going(lot, 3))
                seen.append(0)
            else:
                found = least_split(lot)
                self.assertEqual(self.least_by_going(lot, size(found)), found, lot.rules())
                seen.append(size(found))
        self.assertGreater(min(seen.count(0), len([nodes for nodes in seen if nodes > 2])), 15)

    def test_goes_on(self):
        for lot in (GROWING, WIDE, Lot([(A, ("f", A))]), Lot([AB, (A, C), (B, A)]), SPLIT + Lot([(D, B)])):
            self.assertRaises(GoesOn, least_split, lot)

    def test_what_ends_raises_of_the_first_left_side(self):
        high = (A, nested(B, 3, lambda tree: ("g", tree))), (B, nested(C, 3, lambda tree: ("g", tree)))
        many = [(Z, ("y",)), (Z, ("x",)), (Z, ("w",)), (fours(Z), D)]
        for rules, error in ((list(high) + many, TooLarge), (many + list(high), TooMany), (many, TooMany),
                             ([(Z, D), (Z, C)] + list(high), TooLarge), (list(high) + [(Z, D), (Z, C)], TooLarge)):
            with self.assertRaises(error) as caught:
                least_split(Lot(rules))
            told = getattr(caught.exception, "nodes", None) or caught.exception.limit
            self.assertEqual(told, 7 if error is TooLarge else 50)
        # Without a split nothing is asked for, so nothing is raised.
        self.assertIsNone(least_split(Lot(list(high))))
        self.assertTooLarge(7, Lot(list(high)), A)

    def test_nodes_of_the_first_one(self):
        rules = [(A, fours(B)), (B, fours(C)), (C, fours(D)), (D, fours(Z)), (Z, fours(E)), (E, ("x",)), (E, ("y",))]
        for first, nodes in (([], 1365), ([(("f", A, A), C)], 2731), ([(("f", ("g", A)), C)], 1367)):
            with self.assertRaises(TooLarge) as caught:
                least_split(Lot(first + rules))
            self.assertEqual(caught.exception.nodes, nodes)
        with self.assertRaises(TooMany) as caught:
            least_split(Lot(rules[1:] + rules[:1]))
        self.assertEqual(caught.exception.limit, 50)
