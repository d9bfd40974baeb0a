"""Tests of graftrules.trees: points 3, 4 and 5."""

import inspect
import unittest

from graftrules import trees
from graftrules.errors import NoPlace
from graftrules.trees import is_tree, ordered, part_at, parts, places, put, size
from tests.helper import any_values, nested, trees_up_to

A = ("a",)
B = ("b",)
TREE = ("f", ("g", A), A)


def size_by_definition(tree):
    return 1 + sum(size_by_definition(child) for child in tree[1:])


def parts_by_definition(tree):
    return {tree}.union(*[parts_by_definition(child) for child in tree[1:]])


def places_by_definition(tree):
    found = {(): tree}
    for k, child in enumerate(tree[1:]):
        found.update({(k,) + place: part for place, part in places_by_definition(child).items()})
    return found


def in_order(found):
    return sorted(found, key=lambda tree: (size_by_definition(tree), tree))


class TestInterface(unittest.TestCase):
    def test_defined_in_its_file(self):
        for name in ("is_tree", "size", "parts", "ordered", "places", "part_at", "put"):
            self.assertEqual(getattr(trees, name).__module__, "graftrules.trees")

    def test_names_of_arguments(self):
        self.assertIs(is_tree(value=A), True)
        self.assertEqual(size(tree=TREE), 4)
        self.assertEqual(parts(tree=A), [A])
        self.assertEqual(ordered(trees=[B, A]), [A, B])
        self.assertEqual(list(places(tree=A)), [((), A)])
        self.assertEqual(part_at(tree=TREE, place=(1,)), A)
        self.assertEqual(put(tree=TREE, place=(0,), part=B), ("f", B, A))


class TestIsTree(unittest.TestCase):
    def test_names(self):
        for name in ("a", "z", "m", "f", "ab", "abcdefgh", "zzzzzzzz"):
            self.assertIs(is_tree((name,)), True, name)

    def test_wrong_names(self):
        for name in ("", "abcdefghi", "A", "aB", "Z", "a1", "1", "_", "a_b", " ", "a ", " a", "a\n", "\n", "`", "{",
                     "a-b", "\u00e9", "\u00df", "a\u0301", "\uff41", "\u0430", "a\x00", "f(a)", "aaaaaaaaA", "a" * 1000):
            self.assertIs(is_tree((name,)), False, name)
            self.assertIs(is_tree(("f", A, (name,))), False, name)

    def test_names_of_other_kinds(self):
        for name in (0, 1, True, False, None, (), ("a",), [], ["a"], {}, {"a": 1}, b"a"):
            self.assertIs(is_tree((name,)), False, name)
            self.assertIs(is_tree((name, A)), False, name)

    def test_numbers_of_children(self):
        for many in range(5):
            self.assertIs(is_tree(("f",) + (A,) * many), True, many)
        for many in (5, 6, 40):
            self.assertIs(is_tree(("f",) + (A,) * many), False, many)
            self.assertIs(is_tree(("g", ("f",) + (A,) * many)), False, many)
            self.assertIs(is_tree(("f",) + tuple((letter,) for letter in "abcdefghijklmnopqrstuvwxyz"[:many])), False)

    def test_children_that_are_no_trees(self):
        for value in any_values():
            self.assertIs(is_tree(value), False, value)
            for tree in [("f", value), ("f", value, A), ("f", A, A, A, value), ("f", A, ("g", ("h", value)))]:
                self.assertIs(is_tree(tree), False, tree)

    def test_list_in_the_place_of_a_tuple(self):
        for value in (["a"], ["f", A], ("f", ["a"]), ("f", A, ["a"]), ("f", A, ("g", ["a"])), [A], ["f", ["a"]]):
            self.assertIs(is_tree(value), False, value)

    def test_tuples_that_are_no_trees(self):
        for value in ((), ((),), ("f", ()), (A,), (A, A), ("f", "a"), ("f", A, "a"), "f", A + (0,), (("f",), A)):
            self.assertIs(is_tree(value), False, value)

    def test_all_small_trees(self):
        for tree in trees_up_to(5, "ab"):
            self.assertIs(is_tree(tree), True, tree)

    def test_deep_and_large_trees(self):
        self.assertIs(is_tree(nested(A, 49, lambda tree: ("f", tree))), True)
        self.assertIs(is_tree(nested(A, 5, lambda tree: ("f", tree, tree, tree, tree))), True)
        self.assertIs(is_tree(nested(("A",), 49, lambda tree: ("f", tree))), False)

    def test_parts_that_stand_in_very_many_places(self):
        double = nested(A, 49, lambda tree: ("f", tree, tree))
        self.assertIs(is_tree(double), True)
        self.assertIs(is_tree(("f", double, ("g", double, 0))), False)
        self.assertIs(is_tree(nested((0,), 49, lambda tree: ("f", tree, tree, tree))), False)


class TestSize(unittest.TestCase):
    def test_examples(self):
        self.assertEqual([size(A), size(TREE), size(("f", A, A, A, A))], [1, 4, 5])

    def test_by_definition(self):
        for tree in trees_up_to(5, "ab"):
            self.assertEqual(size(tree), size_by_definition(tree))

    def test_greatest_trees(self):
        low = nested(A, 2, lambda tree: ("f", tree, tree, tree))
        self.assertEqual(size(("g", low, low, low)), 40)
        self.assertEqual(size(nested(A, 39, lambda tree: ("f", tree))), 40)
        self.assertEqual(size(nested(A, 600, lambda tree: ("f", tree))), 601)


class TestPartsAndOrder(unittest.TestCase):
    def test_parts_are_different_and_in_order(self):
        self.assertEqual(parts(A), [A])
        self.assertEqual(parts(TREE), [A, ("g", A), TREE])
        self.assertEqual(parts(("f", B, ("f", B, A), A)), [A, B, ("f", B, A), ("f", B, ("f", B, A), A)])

    def test_parts_by_definition(self):
        for tree in trees_up_to(5, "ab"):
            self.assertEqual(parts(tree), in_order(parts_by_definition(tree)))

    def test_example_of_the_order(self):
        first = ("f", ("a", A), B)
        second = ("f", B, ("a", A))
        self.assertEqual(ordered([second, first]), [first, second])
        self.assertEqual(ordered([("a", A), B]), [B, ("a", A)])

    def test_size_goes_first(self):
        self.assertEqual(ordered([("a", A), ("z",), ("b", A, A), ("a", ("a", A))]),
                         [("z",), ("a", A), ("a", ("a", A)), ("b", A, A)])

    def test_one_size(self):
        self.assertEqual(ordered([("b",), ("ab",), ("a",), ("aa",)]), [("a",), ("aa",), ("ab",), ("b",)])
        self.assertEqual(ordered([("f", A, A, A), ("f", ("f", ("f", A))), ("f", ("f", A, A)), ("f", A, ("f", A))]),
                         [("f", A, A, A), ("f", A, ("f", A)), ("f", ("f", A, A)), ("f", ("f", ("f", A)))])

    def test_each_once(self):
        self.assertEqual(ordered([]), [])
        self.assertEqual(ordered([B, A, B, A, B]), [A, B])

    def test_all_small_trees(self):
        found = trees_up_to(4, "ab")
        self.assertEqual(ordered(found[::-1] + found), in_order(found))

    def test_arguments_stay_and_lists_are_new(self):
        given = [B, TREE, A, B]
        first = ordered(given)
        self.assertEqual(given, [B, TREE, A, B])
        first.append(0)
        self.assertEqual(ordered(given), [A, B, TREE])
        one = [A]
        self.assertIsNot(ordered(one), one)
        found = parts(TREE)
        found.clear()
        self.assertEqual(parts(TREE), [A, ("g", A), TREE])


class TestPlaces(unittest.TestCase):
    def test_is_a_generator(self):
        self.assertTrue(inspect.isgenerator(places(TREE)))

    def test_order(self):
        self.assertEqual(list(places(TREE)), [((), TREE), ((0,), ("g", A)), ((0, 0), A), ((1,), A)])

    def test_four_children(self):
        tree = ("f", A, ("g", A, B), B, ("g", ("g", A)))
        self.assertEqual([place for place, part in places(tree)],
                         [(), (0,), (1,), (1, 0), (1, 1), (2,), (3,), (3, 0), (3, 0, 0)])

    def test_by_definition(self):
        for tree in trees_up_to(5, "ab"):
            self.assertEqual(list(places(tree)), sorted(places_by_definition(tree).items()))


WRONG_PLACES = [
    (2,), (-1,), (0, 1), (0, -1), (0, 0, 0), (1, 0), (2, 0), (-2,), (10 ** 30,), (0, 0, -1),
    (True,), (False,), (0, False), (True, 0), (None,), ("0",), ("",), ((),), ((0,),), ([0],), ({},), (0, None), (0, "a"),
    [], [0], [0, 0], {}, {0: 0}, None, True, False, 0, 1, -1, "", "0", "a", A, TREE,
]


class TestPartAt(unittest.TestCase):
    def test_each_place(self):
        self.assertEqual(part_at(TREE, ()), TREE)
        for tree in trees_up_to(4, "ab"):
            for place, part in places_by_definition(tree).items():
                self.assertEqual(part_at(tree, place), part)

    def test_wrong_places(self):
        for place in WRONG_PLACES + [value for value in any_values() if value not in ((), (0,), (0, 0), (1,))]:
            with self.assertRaises(NoPlace) as caught:
                part_at(TREE, place)
            self.assertEqual(repr(caught.exception.place), repr(place))

    def test_truths_are_no_integers(self):
        # (True,) equals the place (1,), and (False,) the place (0,).
        self.assertEqual(part_at(TREE, (1,)), A)
        for place in ((True,), (False,), (0, False), (False, 0)):
            self.assertRaises(NoPlace, part_at, TREE, place)

    def test_no_children(self):
        self.assertEqual(part_at(A, ()), A)
        for place in ((0,), (-1,), (False,), (1,), (0, 0)):
            self.assertRaises(NoPlace, part_at, A, place)


class TestPut(unittest.TestCase):
    def test_each_place(self):
        new = ("new", B)
        for tree in trees_up_to(4, "ab"):
            before = places_by_definition(tree)
            for place in before:
                found = put(tree, place, new)
                self.assertIs(is_tree(found), True)
                behind = places_by_definition(found)
                self.assertEqual(behind[place], new)
                for other in before:
                    if other[:len(place)] != place and place[:len(other)] != other:
                        self.assertEqual(behind[other], before[other])
                    if other != place[:len(other)] or other == place:
                        continue
                    self.assertEqual(behind[other][0], before[other][0])
                    self.assertEqual(len(behind[other]), len(before[other]))
                self.assertEqual(size(found), size(tree) - size(before[place]) + 2)

    def test_empty_place(self):
        self.assertEqual(put(TREE, (), B), B)
        self.assertEqual(put(A, (), TREE), TREE)

    def test_children(self):
        tree = ("f", A, A, A, A)
        self.assertEqual([put(tree, (k,), B) for k in range(4)],
                         [("f", B, A, A, A), ("f", A, B, A, A), ("f", A, A, B, A), ("f", A, A, A, B)])
        self.assertEqual(put(TREE, (0, 0), TREE), ("f", ("g", TREE), A))
        self.assertEqual(TREE, ("f", ("g", ("a",)), ("a",)))

    def test_wrong_places(self):
        for place in WRONG_PLACES + [value for value in any_values() if value not in ((), (0,), (0, 0), (1,))]:
            with self.assertRaises(NoPlace) as caught:
                put(TREE, place, B)
            self.assertEqual(repr(caught.exception.place), repr(place))

    def test_lists_that_were_handed_in_stay(self):
        place = [0, [0]]
        self.assertRaises(NoPlace, put, TREE, place, B)
        self.assertRaises(NoPlace, part_at, TREE, place)
        self.assertEqual(place, [0, [0]])

    def test_deep_trees(self):
        tree = nested(A, 600, lambda part: ("f", part))
        self.assertEqual(part_at(put(tree, (0,) * 600, B), (0,) * 599), ("f", B))
