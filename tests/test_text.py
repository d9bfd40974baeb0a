"""Tests of graftrules.text: points 3 and 19."""

import itertools
import random
import re
import unittest

from graftrules import text as text_file
from graftrules.errors import InvalidText
from graftrules.lots import Lot
from graftrules.text import read_lot, read_tree, write_lot, write_tree
from graftrules.trees import size
from tests.helper import (A, AB, B, BC, C, CHAIN, GROWING, LETTERS, SIGNS, WIDE, WILD, Z, any_values, branches, forty,
                          lots_by, nested, tree_by, trees_up_to)

LINES = ["a -> b", "f(a,g(b)) -> c", "g(g(a)) -> h(a,b)"]
NAME = re.compile("[a-z]{1,8}")


def written(tree):
    """Return the written form of a tree, from the definition."""
    return tree[0] + ("(" + ",".join(written(child) for child in tree[1:]) + ")" if len(tree) > 1 else "")


def begins_well(text):
    """Tell whether some tree's written form begins with a text, by trying ways to go on with it."""
    opened = text.count("(") - text.count(")")
    return opened >= 0 and any(is_written(text + more + ")" * closed)
                               for more in ("", "a") for closed in (opened, opened + 1))


def is_written(text):
    """Tell whether a text is the written form of a tree, by taking out whole trees from within."""
    if not re.fullmatch(r"[a-z(),]*", text):
        return False
    # Names are marked as trees with a 1 first, then each bracket with trees in it is taken out.
    text = re.sub("[a-z]+", lambda found: "1" if len(found.group()) <= 8 else "!", text)
    while True:
        less = re.sub(r"1\(1(,1){0,3}\)", "2", text)
        if less == text:
            return text in ("1", "2")
        # What had its children takes no more of them, but may be a child.
        text = re.sub(r"(?<=[(,])2(?=[,)])", "1", less)


class TextCase(unittest.TestCase):
    def assertInvalid(self, at, text, read=read_tree):
        with self.assertRaises(InvalidText) as caught:
            read(text)
        self.assertEqual(caught.exception.at, at, text[:80])
        self.assertIsInstance(caught.exception.at, int)


class TestInterface(unittest.TestCase):
    def test_defined_in_its_file(self):
        for name in ("write_tree", "write_lot", "read_tree", "read_lot"):
            self.assertEqual(getattr(text_file, name).__module__, "graftrules.text")

    def test_names_of_arguments(self):
        self.assertEqual(write_tree(tree=("f", A)), "f(a)")
        self.assertEqual(write_lot(lot=Lot([AB])), "a -> b")
        self.assertEqual(read_tree(text="f(a)"), ("f", A))
        self.assertEqual(read_lot(text="a -> b"), Lot([AB]))


class TestTrees(TextCase):
    def assertBoth(self, tree, text):
        self.assertEqual(write_tree(tree), text)
        self.assertEqual(read_tree(text), tree)

    def test_written_forms(self):
        self.assertBoth(A, "a")
        self.assertBoth(("abcdefgh",), "abcdefgh")
        self.assertBoth(("f", A, ("g", B)), "f(a,g(b))")
        self.assertBoth(("f", ("g", B), A), "f(g(b),a)")
        self.assertBoth(("f", A, B, C, Z), "f(a,b,c,z)")
        self.assertBoth(("f", ("f", ("f", A)), ("g", A, ("h", B))), "f(f(f(a)),g(a,h(b)))")
        self.assertBoth(("zz", ("a", A), ("aa", ("zzzzzzzz", A, A, A, A))), "zz(a(a),aa(zzzzzzzz(a,a,a,a)))")

    def test_all_trees_of_few_nodes(self):
        trees = trees_up_to(5, "ab")
        for tree in trees:
            self.assertBoth(tree, written(tree))
        self.assertEqual(len({write_tree(tree) for tree in trees}), len(trees))

    def test_trees_of_any_size(self):
        chance = random.Random(121)
        for tree in [forty(A, B), branches(60, 4, A), branches(90, 2, ("g", A)), ("f", forty(A, B), forty(B, A))]:
            self.assertGreaterEqual(size(tree), 40)
            self.assertBoth(tree, written(tree))
        for _ in range(100):
            tree = tree_by(chance, 6, SIGNS + [("k", 4), ("abcdefgh", 3)])
            if len(written(tree)) <= 500:
                self.assertBoth(tree, written(tree))

    def test_deep_trees(self):
        for levels in (7, 50, 166):
            tree = nested(A, levels, lambda tree: ("f", tree))
            self.assertBoth(tree, "f(" * levels + "a" + ")" * levels)
        left = nested(A, 120, lambda tree: ("f", tree, B))
        self.assertLess(len(write_tree(left)), 620)
        self.assertEqual(read_tree(write_tree(left)), left)
        very = nested(A, 3000, lambda tree: ("f", tree))
        self.assertEqual(write_tree(very), "f(" * 3000 + "a" + ")" * 3000)
        self.assertEqual(write_tree(read_tree(write_tree(very))), write_tree(very))
        self.assertInvalid(9001, "f(" * 3000 + "a" + ")" * 3000 + ",")

    def test_equal_texts_have_equal_trees(self):
        self.assertEqual(read_tree("f(a,g(b))"), read_tree("f(a," + "g(b))"))


class TestInvalidTrees(TextCase):
    def test_the_empty_text(self):
        self.assertInvalid(0, "")

    def test_names(self):
        self.assertInvalid(8, "abcdefghi")
        self.assertInvalid(8, "abcdefghijk(a)")
        self.assertInvalid(10, "f(abcdefghi)")
        self.assertInvalid(12, "f(a,abcdefghi")
        for text, at in (("A", 0), ("aB", 1), ("a1", 1), ("f(a,B)", 4), ("f(a_b)", 3), ("1", 0), ("f(-)", 2), ("`", 0), ("{", 0),
                         ("a{", 1), ("a`", 1), ("f(`", 2), ("@", 0)):
            self.assertInvalid(at, text)

    def test_children(self):
        self.assertInvalid(9, "f(a,b,c,d,e)")
        self.assertInvalid(9, "f(a,b,c,d,")
        self.assertInvalid(14, "f(a,b,c,g(a,b),d,e)")
        self.assertInvalid(16, "f(a,b,c,g(h(a))),e")
        self.assertInvalid(15, "f(a,b,c,g(h(a)),e)")
        self.assertInvalid(2, "f()")
        self.assertInvalid(4, "f(a,)")
        self.assertInvalid(4, "f(a,,b)")
        self.assertInvalid(2, "f(,a)")
        self.assertInvalid(2, "f((a))")

    def test_brackets_and_commas(self):
        for text, at in (("(", 0), (")", 0), (",", 0), ("a)", 1), ("a,", 1), ("a,b", 1), ("f(a))", 4), ("f(a)(b)", 4),
                         ("f(a)b", 4), ("f(a),", 4), ("f(a),b", 4), ("f(g(a)b)", 6), ("f(g(a)(b))", 6), ("(a)", 0),
                         ("f(a)g(b)", 4), ("f((", 2), ("f(a(", 4), ("f)", 1), ("f(a;b)", 3), ("f[a]", 1)):
            self.assertInvalid(at, text)

    def test_blanks(self):
        for text, at in ((" ", 0), (" a", 0), ("a ", 1), ("f (a)", 1), ("f( a)", 2), ("f(a )", 3), ("f(a, b)", 4),
                         ("f(a) ", 4), ("a b", 1), ("\n", 0), ("a\n", 1), ("f(a)\n", 4), ("f(a,\nb)", 4)):
            self.assertInvalid(at, text)

    def test_texts_that_are_cut_off(self):
        for text in ("f(a,g(b))", "abcdefgh(abcdefgh(a),b,c,d(e,f,g,h))", "f(f(f(f(a))))"):
            for length in range(len(text)):
                beginning = text[:length]
                if NAME.fullmatch(beginning):
                    self.assertEqual(read_tree(beginning), (beginning,))
                else:
                    self.assertInvalid(length, beginning)

    def test_texts_that_go_on(self):
        for text in ("a", "f(a)", "f(a,g(b))", "abcdefgh"):
            for more in ")", ",", " ", "\n", "A", "1", "->", " -> b":
                self.assertInvalid(len(text), text + more)
        for more in "a(":
            self.assertInvalid(4, "f(a)" + more)

    def test_all_short_texts(self):
        for length in range(7):
            for signs in itertools.product("a(),", repeat=length):
                self.assertReads("".join(signs))

    def test_many_texts(self):
        chance = random.Random(122)
        for _ in range(1500):
            text = list(written(tree_by(chance, 4, SIGNS + [("abcdefgh", 4), ("abcdefgh", 0)])))
            for _ in range(chance.randint(1, 3)):
                at = chance.randint(0, len(text))
                text[at:at + chance.randint(0, 1)] = chance.choice(["", "a", "(", ")", ",", "a(", ",a", " ", "Z", "b)"])
            self.assertReads("".join(text))

    def assertReads(self, text):
        if is_written(text):
            self.assertEqual(written(read_tree(text)), text)
        else:
            longest = max(length for length in range(len(text) + 1) if begins_well(text[:length]))
            self.assertInvalid(longest, text)

    def test_five_hundred_signs(self):
        self.assertInvalid(500, "f(" * 250)
        self.assertInvalid(500, "f(" * 249 + "a,")
        self.assertInvalid(499, "f(" * 249 + "a ")
        self.assertInvalid(8, "a" * 500)
        tree = read_tree("f(" * 165 + "aaaaa" + ")" * 165)
        self.assertEqual(size(tree), 166)

    def test_errors_by_themselves(self):
        for _ in range(2):
            self.assertInvalid(4, "f(a,,b)")
            self.assertEqual(read_tree("f(a,b)"), ("f", A, B))


class TestLots(TextCase):
    def assertBoth(self, lot, text):
        self.assertEqual(write_lot(lot), text)
        self.assertEqual(read_lot(text), lot)
        self.assertIsInstance(read_lot(text), Lot)

    def assertInvalidLot(self, at, text):
        self.assertInvalid(at, text, read_lot)

    def test_written_forms(self):
        self.assertBoth(Lot([]), "")
        self.assertBoth(Lot([AB]), "a -> b")
        self.assertBoth(Lot([AB, BC, (B, A)]), "a -> b\nb -> c\nb -> a")
        self.assertBoth(Lot([(("f", A, ("g", B)), ("h", ("h", A)))]), "f(a,g(b)) -> h(h(a))")

    def test_many(self):
        for lot in lots_by(123, 80, 8, SIGNS) + [CHAIN, GROWING, WIDE, WILD]:
            lines = [written(left) + " -> " + written(right) for left, right in lot.rules()]
            self.assertBoth(lot, "\n".join(lines))

    def test_lines_of_no_rule(self):
        for line in ("", " ", "a", "a -> ", " -> b", "->", " -> ", "a->b", "a ->b", "a-> b", "a  -> b", "a ->  b", " a -> b",
                     "a -> b ", "a => b", "a - > b", "a > b", "a <- b", "a -> b -> c", "a -> b,", "a -> f(b", "f(a)) -> b",
                     "a -> f(b, c)", "a b -> c", "A -> b", "a -> abcdefghi", "a -> f(a,b,c,d,e)", "(a -> b)", "a, b",
                     "f(a -> b)", "a -> b c", "a  b", "a \n-> b", "-> b", "a ->", "a -> -> b", "a ->\tb", "a - b"):
            for number in range(len(LINES) + 1):
                self.assertInvalidLot(number, "\n".join(LINES[:number] + [line] + LINES[number:]))
                if line != "":
                    self.assertInvalidLot(number, "\n".join(LINES[:number] + [line]))

    def test_empty_lines(self):
        self.assertInvalidLot(0, "\n")
        self.assertInvalidLot(0, "\na -> b")
        self.assertInvalidLot(1, "a -> b\n")
        self.assertInvalidLot(1, "a -> b\n\nb -> c")
        self.assertInvalidLot(3, "\n".join(LINES) + "\n")
        self.assertInvalidLot(3, "\n".join(LINES) + "\n\n")

    def test_sides_that_are_alike(self):
        self.assertInvalidLot(0, "a -> a")
        self.assertInvalidLot(2, "a -> b\nb -> a\nf(a) -> f(a)\na -> c")

    def test_sides_that_are_too_great(self):
        self.assertEqual(len(read_lot("f(g(h(a)),a,b) -> a")), 1)
        self.assertInvalidLot(0, "f(g(h(k(a)))) -> a")
        self.assertInvalidLot(0, "a -> f(g(h(k(a))))")
        self.assertInvalidLot(1, "a -> b\nf(a,a,a,f(a,a)) -> a")
        self.assertInvalidLot(1, "a -> b\nc -> f(a,a,a,f(a,a))")
        self.assertInvalidLot(1, "a -> b\nc -> " + "f(" * 160 + "a" + ")" * 160)

    def test_a_line_twice(self):
        self.assertInvalidLot(1, "a -> b\na -> b")
        self.assertInvalidLot(3, "\n".join(LINES + LINES[:1]))
        self.assertEqual(len(read_lot("a -> b\nb -> a")), 2)

    def test_nine_lines(self):
        lines = ["%s -> z" % letter for letter in "abcdefgh"]
        self.assertEqual(read_lot("\n".join(lines)).rules(), [(letter, Z) for letter in LETTERS[:8]])
        self.assertInvalidLot(8, "\n".join(lines + ["i -> z"]))
        self.assertInvalidLot(8, "\n".join(lines + ["i -> z", "j -> z", "a -> a"]))
        self.assertInvalidLot(8, "\n".join(lines) + "\n")
        self.assertInvalidLot(8, "\n".join(lines + lines))
        self.assertInvalidLot(5, "\n".join(lines[:5] + ["i - z"] + lines[5:] + ["j -> z"]))
        self.assertInvalidLot(7, "\n".join(lines[:7] + lines[:1] + ["i -> z"]))

    def test_too_many_told_parts(self):
        sides = [side + "f(" + side + "g(" + side + "h(" + side + "a))," + side + "b," + side + "c)" for side in "pqrst"]
        text = sides[0] + " -> " + sides[1] + "\n" + sides[2] + " -> " + sides[3]
        self.assertEqual(len(read_lot(text).parts()), 24)
        self.assertEqual(len(read_lot(text + "\npa -> qa\nqa -> pa")), 4)
        self.assertInvalidLot(2, text + "\npa -> x")
        self.assertInvalidLot(3, text + "\npa -> qa\nsa -> x\nqa -> qa")
        self.assertInvalidLot(2, text + "\n" + sides[4] + " -> pa\npa -> qa")

    def test_the_first_line_counts(self):
        self.assertInvalidLot(1, "a -> b\na -> b\nb -> b\nx")
        self.assertInvalidLot(0, "x\na -> b\na -> b")

    def test_arguments_stay(self):
        lot = Lot(WILD.rules())
        self.assertEqual(write_lot(lot), write_lot(lot))
        self.assertEqual(lot, WILD)
        read_lot(write_lot(lot)).rules().clear()
        self.assertEqual(read_lot(write_lot(lot)), WILD)

    def test_texts_that_are_names_or_trees(self):
        for value in any_values():
            if isinstance(value, str) and value not in ("", "a -> b"):
                self.assertInvalidLot(0, value)
