"""Tests of graftrules.likeness: points 3, 7, 8, 9 and 14."""

import copy
import random
import unittest

from graftrules import likeness
from graftrules.errors import NoRule
from graftrules.likeness import is_unlike, leads_same, spared, trimmed
from graftrules.lots import Lot, is_rule
from graftrules.ways import is_fence, least_steps
from tests.helper import (A, AB, B, BC, C, CHAIN, D, GROWING, LETTERS, SIGNS, WIDE, WILD, Z, any_values, fours,
                          is_closed_by_definition, lots_by, parts_told, trees_behind, trees_up_to)

MANY = lots_by(71, 120, 5, SIGNS)
# The example of the document.
ONE = Lot([AB, (("f", A), ("f", B)), BC])
# One step of the first rule is as much as 10922 steps of the others.
GREAT = Lot([(A, Z)] + [(LETTERS[k], fours(LETTERS[k + 1])) for k in range(5)] + [(LETTERS[5], Z), (fours(Z), Z)])


def like_lots(chance, lot):
    """List lots that are near to a lot: some lead the same as it does."""
    rules = lot.rules()
    found = [lot, Lot(rules[::-1]), trimmed(lot), Lot(rules[1:]), lot.turned()]
    for left, right in rules:
        for other, number in trees_behind(lot, left, 3).items():
            if number > 1 and (left, other) not in rules and is_rule((left, other)):
                found.append(Lot(rules + [(left, other)]))
    return chance.sample(found, min(len(found), 6))


class LikenessCase(unittest.TestCase):
    def assertFence(self, lot, rule, fence):
        left, right = rule
        self.assertIsInstance(fence, list)
        self.assertNotIn((left, right), fence)
        self.assertEqual(len(set(fence)), len(fence))
        told = parts_told(lot, left, right)
        self.assertTrue(all(one in told and other in told for one, other in fence))
        self.assertTrue(is_closed_by_definition(lot, left, right, fence))
        self.assertIs(is_fence(lot, left, right, fence), True)


class TestInterface(unittest.TestCase):
    def test_defined_in_its_file(self):
        for name in ("leads_same", "is_unlike", "spared", "trimmed"):
            self.assertEqual(getattr(likeness, name).__module__, "graftrules.likeness")

    def test_names_of_arguments(self):
        lot = Lot([AB])
        self.assertEqual(leads_same(other=Lot([AB, BC, (A, C)]), one=Lot([AB, BC])), ("yes", ([1, 1], [1, 1, 2])))
        fence = [(A, A), (B, B)]
        self.assertEqual(leads_same(other=Lot([]), one=lot), ("no", (0, 0, fence)))
        self.assertIs(is_unlike(value=(0, 0, fence), other=Lot([]), one=lot), True)
        self.assertEqual(spared(number=0, lot=lot), ("no", fence))
        self.assertEqual(trimmed(lot=lot), lot)


class TestLeadsSame(LikenessCase):
    def assertSame(self, one, other):
        firsts = [least_steps(other, left, right) for left, right in one.rules()]
        seconds = [least_steps(one, left, right) for left, right in other.rules()]
        word, told = leads_same(one, other)
        if None in firsts + seconds:
            which = 0 if None in firsts else 1
            number = (firsts, seconds)[which].index(None)
            self.assertEqual([word, len(told)], ["no", 3])
            self.assertIsInstance(told, tuple)
            self.assertEqual(told[:2], (which, number))
            self.assertFence((other, one)[which], (one, other)[which].rules()[number], told[2])
            self.assertIs(is_unlike(one, other, told), True)
        else:
            self.assertEqual((word, told), ("yes", (firsts, seconds)))
        return word

    def test_the_same_lot(self):
        for lot in (Lot([]), ONE, GROWING, WIDE, WILD):
            self.assertEqual(leads_same(lot, lot), ("yes", ([1] * len(lot), [1] * len(lot))))
            turned = Lot(lot.rules()[::-1])
            self.assertEqual(leads_same(lot, turned), ("yes", ([1] * len(lot), [1] * len(lot))))

    def test_unlike_rules_that_lead_the_same(self):
        ring = Lot([AB, BC, (C, A)])
        back = Lot([(A, C), (C, B), (B, A)])
        self.assertEqual(leads_same(ring, back), ("yes", ([2, 2, 2], [2, 2, 2])))
        self.assertEqual(leads_same(ONE, Lot([AB, BC])), ("yes", ([1, 1, 1], [1, 1])))
        more = Lot([AB, BC, (A, C), (("g", A, A), ("g", C, B))])
        self.assertEqual(leads_same(more, Lot([AB, BC])), ("yes", ([1, 1, 2, 3], [1, 1])))
        self.assertEqual(leads_same(Lot([AB, BC]), more), ("yes", ([1, 1], [1, 1, 2, 3])))

    def test_through_other_trees(self):
        one = Lot([(A, ("f", B)), (B, C), (("f", C), D), (A, D)])
        self.assertEqual(leads_same(one, one.without(3)), ("yes", ([1, 1, 1, 3], [1, 1, 1])))

    def test_the_first_rule_that_is_not_led(self):
        one, other = Lot([AB, (A, C), (A, D), (B, D)]), Lot([(A, C), (C, D), (B, Z)])
        self.assertEqual(leads_same(one, other)[1][:2], (0, 0))
        self.assertEqual(leads_same(other, one)[1][:2], (0, 1))
        self.assertEqual(leads_same(one.without(0), other)[1][:2], (0, 2))
        self.assertSame(one, other)
        self.assertSame(other, one)

    def test_the_first_lot_comes_ahead_of_the_second_one(self):
        # Here both have a rule that the other one does not lead, with a lower number in the second lot.
        one, other = Lot([AB, (A, C)]), Lot([(Z, A), AB])
        self.assertEqual(leads_same(one, other)[1][:2], (0, 1))
        self.assertEqual(leads_same(other, one)[1][:2], (0, 0))
        # Here all rules of the first lot are led.
        self.assertEqual(leads_same(Lot([AB]), Lot([AB, BC, (D, A)]))[1][:2], (1, 1))
        self.assertEqual(leads_same(Lot([]), Lot([AB]))[1][:2], (1, 0))
        self.assertEqual(leads_same(Lot([AB]), Lot([]))[1], (0, 0, [(A, A), (B, B)]))

    def test_fences_are_by_the_other_lot(self):
        one, other = Lot([AB, (A, C)]), Lot([AB, (D, Z)])
        which, number, fence = leads_same(one, other)[1]
        self.assertEqual((which, number), (0, 1))
        self.assertFence(other, (A, C), fence)
        self.assertIn((D, Z), fence)
        which, number, fence = leads_same(Lot([AB]), other)[1]
        self.assertEqual((which, number), (1, 1))
        self.assertFence(Lot([AB]), (D, Z), fence)
        self.assertNotIn((D, Z), fence)

    def test_many(self):
        chance = random.Random(72)
        words = []
        for lot in MANY:
            for other in like_lots(chance, lot) + [chance.choice(MANY)]:
                words.append(self.assertSame(lot, other))
                words.append(self.assertSame(other, lot))
        self.assertGreater(min(words.count("yes"), words.count("no")), 200)

    def test_each_tree_becomes_the_same_trees(self):
        for lot in MANY[:30]:
            other = trimmed(lot) + Lot([])
            turned = Lot(lot.rules()[1:])
            for tree in trees_up_to(2, "abf"):
                near = trees_behind(lot, tree, 2)
                if leads_same(lot, other)[0] == "yes":
                    self.assertTrue(all(least_steps(other, tree, goal) is not None for goal in near))
                if leads_same(lot, turned)[0] == "yes":
                    self.assertTrue(all(least_steps(turned, tree, goal) is not None for goal in near))

    def test_great_numbers(self):
        others = GREAT.without(0)
        number = least_steps(others, A, Z)
        self.assertEqual(number, 2730 - 1024)
        self.assertEqual(leads_same(GREAT, others), ("yes", ([number] + [1] * 7, [1] * 7)))
        self.assertEqual(spared(GREAT, 0), ("yes", number))

    def test_growing_and_wide_lots(self):
        for one in (GROWING, WIDE, WILD, CHAIN):
            for other in (GROWING, WIDE, WILD, CHAIN):
                self.assertSame(one, other)

    def test_returned_lists_are_new(self):
        one, other = Lot([AB, BC]), Lot([AB, BC])
        first, second = leads_same(one, other)[1], leads_same(one, other)[1]
        self.assertEqual(first, second)
        lists = [first[0], first[1], second[0], second[1]]
        self.assertEqual(len({id(told) for told in lists}), 4)
        for told in lists:
            told.clear()
        self.assertEqual(leads_same(one, other), ("yes", ([1, 1], [1, 1])))
        before = copy.deepcopy(leads_same(one, Lot([])))
        leads_same(one, Lot([]))[1][2].clear()
        self.assertEqual(leads_same(Lot(copy.deepcopy(one.rules())), Lot([])), before)
        self.assertEqual([one.rules(), other.rules()], [[AB, BC], [AB, BC]])


class TestIsUnlike(LikenessCase):
    def test_any_such_rule(self):
        one, other = Lot([AB, (A, C), (A, D)]), Lot([AB, (Z, A), (B, Z)])
        answers = []
        for which, number in [(0, 0), (0, 1), (0, 2), (1, 0), (1, 1), (1, 2)]:
            lot, by = ((one, other), (other, one))[which]
            left, right = lot.rules()[number]
            told = parts_told(by, left, right)
            pairs = [(u, v) for u in told for v in told if least_steps(by, u, v) is not None]
            answers.append(is_unlike(one, other, (which, number, pairs)))
            self.assertIs(answers[-1], least_steps(by, left, right) is None)
            self.assertIs(is_unlike(one, other, (which, number, pairs[::-1])), answers[-1])
            self.assertIs(is_unlike(one, other, (which, number, pairs[1:])), False)
            self.assertIs(is_unlike(one, other, (which, number, pairs + pairs[:1])), False)
            self.assertIs(is_unlike(other, one, (1 - which, number, pairs)), answers[-1])
        self.assertEqual(answers, [False, True, True, False, True, True])

    def test_fences_of_other_rules_and_lots(self):
        one, other = Lot([AB, (A, C)]), Lot([AB, (Z, A), (B, Z)])
        first, second = leads_same(one, other)[1], leads_same(other, one)[1]
        self.assertIs(is_unlike(one, other, first), True)
        self.assertIs(is_unlike(other, one, second), True)
        self.assertIs(is_unlike(one, other, (1,) + second[1:]), True)
        self.assertIs(is_unlike(one, other, second), False)
        self.assertIs(is_unlike(other, one, first), False)
        self.assertIs(is_unlike(one, other, (0, 0, first[2])), False)
        self.assertIs(is_unlike(one, other, (1, 1, first[2])), False)

    def test_greater_fences(self):
        one, other = Lot([AB]), Lot([(C, D)])
        least = leads_same(one, other)[1][2]
        self.assertIs(is_unlike(one, other, (0, 0, least + [(B, A)])), True)
        self.assertIs(is_unlike(one, other, (0, 0, least + [(A, B)])), False)

    def test_near_to_one(self):
        one, other = Lot([AB]), Lot([])
        fence = [(A, A), (B, B)]
        self.assertIs(is_unlike(one, other, (0, 0, fence)), True)
        near = [
            (False, 0, fence), (0, False, fence), (0, 0, tuple(fence)), [0, 0, fence], (0, 0), (0, 0, fence, 0),
            (1, 0, fence), (2, 0, fence), (-2, 0, fence), (0, 1, fence), (0, -1, fence), ("0", 0, fence),
            (0, "0", fence), (0, None, fence), (0, 0, None), (0, 0, [[A, A], [B, B]]), (0, 0, [(A, A)]),
            (0, 0, {A: A, B: B}), fence, ("no", (0, 0, fence)), ((0, 0, fence),), {0: 0, 1: 0, 2: fence}, (0, (0,), fence),
        ]
        for value in near:
            before = copy.deepcopy(value)
            self.assertIs(is_unlike(one, other, value), False, value)
            self.assertEqual(value, before)

    def test_truths(self):
        one, other = Lot([AB, BC]), Lot([AB, BC, (A, C), (Z, A)])
        which, number, fence = leads_same(one, other)[1]
        self.assertEqual((which, number), (1, 3))
        self.assertIs(is_unlike(one, other, (1, 3, fence)), True)
        for wrong in (True, 0, 2, -1, "1"):
            self.assertIs(is_unlike(one, other, (wrong, 3, fence)), False)
        which, number, fence = leads_same(Lot([AB, BC]), Lot([AB]))[1]
        self.assertEqual((which, number), (0, 1))
        self.assertIs(is_unlike(Lot([AB, BC]), Lot([AB]), (0, 1, fence)), True)
        self.assertIs(is_unlike(Lot([AB, BC]), Lot([AB]), (0, True, fence)), False)
        self.assertIs(is_unlike(Lot([AB, BC]), Lot([AB]), (False, 1, fence)), False)

    def test_any_value(self):
        fence = [(A, A), (B, B)]
        for value in any_values():
            for wrong in (value, (value,), (0, 0, value), (value, value, value), (0, value, fence + [value]),
                          [0, 0, value], (0, 0, fence + [value])):
                self.assertIs(is_unlike(Lot([AB]), Lot([]), wrong), False, wrong)
            expected = value == 0 and value is not False
            self.assertIs(is_unlike(Lot([AB]), Lot([]), (value, 0, fence)), expected, value)
            self.assertIs(is_unlike(Lot([AB]), Lot([]), (0, value, fence)), expected, value)
            self.assertIs(is_unlike(Lot([]), Lot([]), (value, 0, fence)), False)
            self.assertIs(is_unlike(Lot([]), Lot([]), (0, value, fence)), False)

    def test_lots_that_lead_the_same(self):
        for which in (0, 1):
            for number in (0, 1, 2):
                for fence in ([], [(A, A), (B, B), (C, C)], [(A, A), (B, B), (C, C), (A, B), (B, C), (A, C)]):
                    self.assertIs(is_unlike(Lot([AB, BC]), Lot([AB, BC, (A, C)]), (which, number, fence)), False)


class TestSpared(LikenessCase):
    def test_rules_that_can_be_spared(self):
        self.assertEqual(spared(ONE, 1), ("yes", 1))
        lot = Lot([AB, BC, (A, C), (("f", A, A), ("f", C, C)), (("f", A, A), ("f", B, C))])
        self.assertEqual([spared(lot, number) for number in (2, 3, 4)], [("yes", 2), ("yes", 2), ("yes", 2)])
        self.assertEqual(spared(lot.without(4).without(2), 2), ("yes", 4))

    def test_rules_that_cannot(self):
        for lot, number in ((Lot([AB]), 0), (ONE, 0), (ONE, 2), (GROWING, 0), (WIDE, 0), (WILD, 3)):
            word, fence = spared(lot, number)
            self.assertEqual(word, "no")
            self.assertFence(lot.without(number), lot.rules()[number], fence)

    def test_many(self):
        chance = random.Random(73)
        words = []
        for lot in MANY:
            for near in like_lots(chance, lot):
                for number, rule in enumerate(near.rules()):
                    least = least_steps(near.without(number), *rule)
                    told = spared(near, number)
                    words.append(told[0])
                    if least is None:
                        self.assertEqual(told[0], "no")
                        self.assertFence(near.without(number), rule, told[1])
                    else:
                        self.assertEqual(told, ("yes", least))
        self.assertGreater(min(words.count("yes"), words.count("no")), 30)

    def test_numbers_of_no_rule(self):
        for lot in (Lot([]), ONE):
            for number in any_values() + [len(lot), -len(lot), [0], (0,)]:
                if number in [0, 1, 2] and not isinstance(number, bool) and lot == ONE:
                    continue
                before = copy.deepcopy(number)
                with self.assertRaises(NoRule) as caught:
                    spared(lot, number)
                self.assertIs(caught.exception.number, number)
                self.assertEqual(number, before)

    def test_truths_are_no_numbers(self):
        for number in (True, False):
            with self.assertRaises(NoRule) as caught:
                spared(ONE, number)
            self.assertIs(caught.exception.number, number)

    def test_returned_lists_are_new(self):
        before = copy.deepcopy(spared(ONE, 0))
        self.assertIsNot(spared(ONE, 0)[1], spared(ONE, 0)[1])
        spared(ONE, 0)[1].clear()
        self.assertEqual(spared(Lot(copy.deepcopy(ONE.rules())), 0), before)


class TestTrimmed(LikenessCase):
    def test_nothing_can_be_spared(self):
        for lot in (Lot([]), Lot([AB]), CHAIN):
            self.assertEqual(trimmed(lot), lot)
            self.assertIsInstance(trimmed(lot), Lot)

    def test_from_the_last_rule_to_the_first_one(self):
        self.assertEqual(trimmed(ONE).rules(), [AB, BC])
        # Each of these can be spared, but not both: the later one goes.
        lot = Lot([AB, (B, A), (("f", A), C), (("f", B), C)])
        self.assertEqual(trimmed(lot).rules(), lot.rules()[:3])
        lot = Lot([AB, (B, A), (("f", B), C), (("f", A), C)])
        self.assertEqual(trimmed(lot).rules(), lot.rules()[:3])
        ring = [(A, B), (B, C), (C, A), (A, C), (C, B), (B, A)]
        self.assertEqual(trimmed(Lot(ring)).rules(), ring[:3])
        self.assertEqual(trimmed(Lot(ring[::-1])).rules(), ring[:2:-1])

    def test_what_is_left_then_counts(self):
        # Without a later rule that is spared an earlier one cannot be spared any more.
        self.assertEqual(trimmed(Lot([(A, C), AB, BC])).rules(), [AB, BC])
        lot = Lot([(A, C), (A, D), (D, C), (C, D)])
        self.assertEqual([spared(lot, 0)[0], spared(lot, 1)[0]], ["yes", "yes"])
        self.assertEqual(trimmed(lot).rules(), [(A, C), (D, C), (C, D)])
        lot = Lot([(C, D), (A, C), (D, C), (A, D)])
        self.assertEqual(trimmed(lot).rules(), [(C, D), (A, C), (D, C)])

    def test_many(self):
        chance = random.Random(74)
        shorter = 0
        for lot in MANY:
            for near in like_lots(chance, lot):
                kept = near.rules()
                for number in reversed(range(len(kept))):
                    others = kept[:number] + kept[number + 1:]
                    if least_steps(Lot(others), *kept[number]) is not None:
                        kept = others
                self.assertEqual(trimmed(near).rules(), kept)
                self.assertEqual(leads_same(near, trimmed(near))[0], "yes")
                self.assertTrue(all(spared(trimmed(near), number)[0] == "no" for number in range(len(kept))))
                shorter += len(kept) < len(near)
        self.assertGreater(shorter, 30)

    def test_lot_stays(self):
        lot = Lot(ONE.rules())
        self.assertEqual(trimmed(lot), trimmed(lot))
        trimmed(lot).rules().clear()
        self.assertEqual(lot, ONE)
        for wide in (GROWING, WIDE, WILD, GREAT):
            self.assertEqual(leads_same(wide, trimmed(wide))[0], "yes")
        self.assertEqual(len(trimmed(GREAT)), 7)
