"""The examples of the document, word for word, and those of README.md."""

import doctest
import pathlib
import re
import unittest

README = pathlib.Path(__file__).resolve().parent.parent / "README.md"

STAGE_1 = """
>>> from graftrules.trees import part_at, parts, places, put, size
>>> tree = ("f", ("g", ("a",)), ("a",))
>>> [size(tree), parts(tree), part_at(tree, (0, 0)), put(tree, (0,), ("b",))]
[4, [('a',), ('g', ('a',)), ('f', ('g', ('a',)), ('a',))], ('a',), ('f', ('b',), ('a',))]
>>> [place for place, part in places(tree)]
[(), (0,), (0, 0), (1,)]
"""

STAGE_2 = """
>>> from graftrules.lots import after, Lot, steps
>>> lot = Lot([(("f", ("a",)), ("b",)), (("a",), ("c",)), (("f", ("c",)), ("b",))])
>>> tree = ("g", ("f", ("a",)))
>>> [len(lot), (("a",), ("c",)) in lot, after(lot, tree, [((0, 0), 1), ((0,), 2)])]
[3, True, ('g', ('b',))]
>>> list(steps(lot, tree))
[((0,), 0, ('g', ('b',))), ((0, 0), 1, ('g', ('f', ('c',))))]
"""

STAGE_3 = """
>>> from graftrules.lots import Lot
>>> from graftrules.ways import becomes, is_way, least_steps, number_table
>>> lot = Lot([(("a",), ("b",)), (("b",), ("a",)), (("f", ("b",), ("b",)), ("c",))])
>>> tree = ("g", ("f", ("a",), ("a",)))
>>> [least_steps(lot, tree, ("g", ("c",))), least_steps(lot, ("c",), ("a",)), becomes(lot, ("c",), ("a",))[0]]
[3, None, 'no']
>>> is_way(lot, tree, ("g", ("c",)), [((0, 0), 0), ((0, 1), 0), ((0,), 2)])
True
>>> number_table(Lot([(("a",), ("b",))]), ("a",), ("b",))
[(('a',), ('a',), 0), (('a',), ('b',), 1), (('b',), ('b',), 0)]
"""

STAGE_4 = """
>>> from graftrules.lots import Lot
>>> from graftrules.machine import Machine
>>> lot = Lot([(("f", ("a",)), ("a",))])
>>> machine = Machine(lot, [("a", 0), ("f", 1), ("b", 0)])
>>> machine.readings()
[([('a',)], ('a',)), ([], ('b',)), ([('a',), ('f', ('a',))], ('f', ('a',)))]
>>> [machine.after("f", [1]), machine.after("f", [2]), machine.how_many(("a",), 5)]
[1, 2, 1]
"""

STAGE_5 = """
>>> from graftrules.endings import ending, greatest, longest, most_steps
>>> from graftrules.lots import Lot
>>> lot = Lot([(("a",), ("f", ("b",), ("b",))), (("b",), ("c",))])
>>> tree = ("g", ("a",), ("b",))
>>> [ending(lot), most_steps(lot, tree), greatest(lot, tree), longest(lot, ("b",))]
[('yes', [0, 1]), 4, (5, 3), [((), 1)]]
>>> ending(Lot([(("a",), ("f", ("a",)))]))[0]
'no'
"""


class TestExamples(unittest.TestCase):
    def run_example(self, text, name):
        example = doctest.DocTestParser().get_doctest(text, {}, name, None, 0)
        self.assertTrue(example.examples)
        said = []
        result = doctest.DocTestRunner(verbose=False).run(example, out=said.append)
        self.assertEqual(result.failed, 0, "".join(said))

    def test_stage_1(self):
        self.run_example(STAGE_1, "stage 1")

    def test_stage_2(self):
        self.run_example(STAGE_2, "stage 2")

    def test_stage_3(self):
        self.run_example(STAGE_3, "stage 3")

    def test_stage_4(self):
        self.run_example(STAGE_4, "stage 4")

    def test_stage_5(self):
        self.run_example(STAGE_5, "stage 5")

    def test_readme(self):
        texts = re.findall(r"```\n(>>>.*?)```", README.read_text(encoding="ascii"), re.DOTALL)
        self.assertGreater(len(texts), 1)
        self.run_example("".join(texts), "README.md")
