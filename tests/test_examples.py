"""The examples of the document, word for word, and those of README.md."""

import doctest
import pathlib
import re
import unittest

from graftrules.errors import TreeError

README = pathlib.Path(__file__).resolve().parent.parent / "README.md"

STAGE_1 = """
>>> from graftrules.trees import part_at, parts, places, put, size
>>> tree = ("f", ("g", ("a",)), ("a",))
>>> [size(tree), parts(tree), part_at(tree, (0, 0)), put(tree, (0,), ("b",))]
[4, [('a',), ('g', ('a',)), ('f', ('g', ('a',)), ('a',))], ('a',), ('f', ('b',), ('a',))]
>>> [place for place, part in places(tree)]
[(), (0,), (0, 0), (1,)]
"""

STAGE_2 = """
>>> from graftrules.lots import after, Lot, steps
>>> lot = Lot([(("f", ("a",)), ("b",)), (("a",), ("c",)), (("f", ("c",)), ("b",))])
>>> tree = ("g", ("f", ("a",)))
>>> [len(lot), (("a",), ("c",)) in lot, after(lot, tree, [((0, 0), 1), ((0,), 2)])]
[3, True, ('g', ('b',))]
>>> list(steps(lot, tree))
[((0,), 0, ('g', ('b',))), ((0, 0), 1, ('g', ('f', ('c',))))]
"""

STAGE_3 = """
>>> from graftrules.lots import Lot
>>> from graftrules.ways import becomes, is_way, least_steps, number_table
>>> lot = Lot([(("a",), ("b",)), (("b",), ("a",)), (("f", ("b",), ("b",)), ("c",))])
>>> tree = ("g", ("f", ("a",), ("a",)))
>>> [least_steps(lot, tree, ("g", ("c",))), least_steps(lot, ("c",), ("a",)), becomes(lot, ("c",), ("a",))[0]]
[3, None, 'no']
>>> is_way(lot, tree, ("g", ("c",)), [((0, 0), 0), ((0, 1), 0), ((0,), 2)])
True
>>> number_table(Lot([(("a",), ("b",))]), ("a",), ("b",))
[(('a',), ('a',), 0), (('a',), ('b',), 1), (('b',), ('b',), 0)]
"""

STAGE_4 = """
>>> from graftrules.lots import Lot
>>> from graftrules.machine import Machine
>>> lot = Lot([(("f", ("a",)), ("a",))])
>>> machine = Machine(lot, [("a", 0), ("f", 1), ("b", 0)])
>>> machine.readings()
[([('a',)], ('a',)), ([], ('b',)), ([('a',), ('f', ('a',))], ('f', ('a',)))]
>>> [machine.after("f", [1]), machine.after("f", [2]), machine.how_many(("a",), 5)]
[1, 2, 1]
"""

STAGE_5 = """
>>> from graftrules.endings import ending, greatest, longest, most_steps
>>> from graftrules.lots import Lot
>>> lot = Lot([(("a",), ("f", ("b",), ("b",))), (("b",), ("c",))])
>>> tree = ("g", ("a",), ("b",))
>>> [ending(lot), most_steps(lot, tree), greatest(lot, tree), longest(lot, ("b",))]
[('yes', [0, 1]), 4, (5, 3), [((), 1)]]
>>> ending(Lot([(("a",), ("f", ("a",)))]))[0]
'no'
"""

STAGE_6 = """
>>> from graftrules.ends import all_meet, ends, least_split, meeting, overlaps
>>> from graftrules.lots import Lot
>>> lot = Lot([(("a",), ("g", ("b",))), (("f", ("g", ("b",))), ("c",)), (("b",), ("d",))])
>>> [overlaps(lot), all_meet(lot), meeting(lot, ("a",), ("g", ("d",)))]
[[(1, (0, 0), 2)], ('no', (1, (0, 0), 2)), 2]
>>> [ends(lot, ("f", ("a",))), least_split(lot)]
[[('c',), ('f', ('g', ('d',)))], ('f', ('a',))]
"""

STAGE_7 = """
>>> from graftrules.likeness import leads_same, spared, trimmed
>>> from graftrules.lots import Lot
>>> one = Lot([(("a",), ("b",)), (("f", ("a",)), ("f", ("b",))), (("b",), ("c",))])
>>> [spared(one, 1), len(trimmed(one)), leads_same(one, trimmed(one))]
[('yes', 1), 2, ('yes', ([1, 1, 1], [1, 1]))]
"""

STAGE_8 = """
>>> from graftrules.equals import classes, equal
>>> from graftrules.lots import Lot
>>> lot = Lot([(("a",), ("b",)), (("f", ("b",)), ("c",))])
>>> [classes(lot), equal(lot, ("c",), ("f", ("a",)))]
[[[('a',), ('b',)], [('c',), ('f', ('b',))]], ('yes', [((), 1, False), ((0,), 0, False)])]
"""

STAGE_9 = """
>>> from graftrules.lots import Lot
>>> from graftrules.settled import least_equal, settled
>>> lot = Lot([(("a",), ("f", ("a",))), (("b",), ("f", ("f", ("a",))))])
>>> [settled(lot), least_equal(lot, ("g", ("f", ("b",))))]
[[(('b',), ('a',)), (('f', ('a',)), ('a',))], ('g', ('a',))]
"""

STAGE_10 = """
>>> from graftrules.lots import Lot
>>> from graftrules.still import still_count, still_trees
>>> lot = Lot([(("f", ("a",)), ("a",))])
>>> [still_count(lot, [("a", 0), ("b", 0), ("f", 1)], 9), list(still_trees(lot, [("a", 0), ("b", 0), ("f", 1)], 2))]
[1, [('a',), ('b',), ('f', ('b',))]]
"""

STAGE_11 = """
>>> from graftrules.lots import Lot
>>> from graftrules.wood import Wood
>>> wood = Wood(Lot([(("a",), ("b",)), (("f", ("b",)), ("a",))]), ("f", ("a",)))
>>> found = [wood.left(("b",)), wood.go((0,), 0), wood.tree, wood.left(("b",)), wood.drop(0), wood.left(("b",))]
>>> found + [wood.undo(), wood.undo(), wood.tree, wood.done()]
[3, None, ('f', ('b',)), 2, None, None, ('drop', 0), ('go', (0,), 0), ('f', ('a',)), []]
"""

STAGE_12 = """
>>> from graftrules.text import read_tree, write_tree
>>> [write_tree(("f", ("a",), ("g", ("b",)))), read_tree("f(a,g(b))")]
['f(a,g(b))', ('f', ('a',), ('g', ('b',)))]
>>> read_tree("f(a,,b)")
raises InvalidText(at=4)
"""


def raised(ask):
    """Print the error that a call raises, as the document shows errors."""
    try:
        ask()
    except TreeError as error:
        told = ", ".join(f"{name}={value!r}" for name, value in vars(error).items())
        print(f"raises {type(error).__name__}({told})")


class TestExamples(unittest.TestCase):
    def run_example(self, text, name):
        text = re.sub(r"^>>> (.*)\nraises ", r">>> raised(lambda: \1)\nraises ", text, flags=re.MULTILINE)
        example = doctest.DocTestParser().get_doctest(text, {"raised": raised}, name, None, 0)
        self.assertTrue(example.examples)
        said = []
        result = doctest.DocTestRunner(verbose=False).run(example, out=said.append)
        self.assertEqual(result.failed, 0, "".join(said))

    def test_stage_1(self):
        self.run_example(STAGE_1, "stage 1")

    def test_stage_2(self):
        self.run_example(STAGE_2, "stage 2")

    def test_stage_3(self):
        self.run_example(STAGE_3, "stage 3")

    def test_stage_4(self):
        self.run_example(STAGE_4, "stage 4")

    def test_stage_5(self):
        self.run_example(STAGE_5, "stage 5")

    def test_stage_6(self):
        self.run_example(STAGE_6, "stage 6")

    def test_stage_7(self):
        self.run_example(STAGE_7, "stage 7")

    def test_stage_8(self):
        self.run_example(STAGE_8, "stage 8")

    def test_stage_9(self):
        self.run_example(STAGE_9, "stage 9")

    def test_stage_10(self):
        self.run_example(STAGE_10, "stage 10")

    def test_stage_11(self):
        self.run_example(STAGE_11, "stage 11")

    def test_stage_12(self):
        self.run_example(STAGE_12, "stage 12")

    def test_readme(self):
        texts = re.findall(r"```\n(>>>.*?)```", README.read_text(encoding="ascii"), re.DOTALL)
        self.assertGreater(len(texts), 1)
        self.run_example("".join(texts), "README.md")
