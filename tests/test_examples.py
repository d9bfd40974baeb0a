"""The examples of the document, word for word."""

import doctest
import unittest

STAGE_1 = """
>>> from graftrules.trees import part_at, parts, places, put, size
>>> tree = ("f", ("g", ("a",)), ("a",))
>>> [size(tree), parts(tree), part_at(tree, (0, 0)), put(tree, (0,), ("b",))]
[4, [('a',), ('g', ('a',)), ('f', ('g', ('a',)), ('a',))], ('a',), ('f', ('b',), ('a',))]
>>> [place for place, part in places(tree)]
[(), (0,), (0, 0), (1,)]
"""

STAGE_2 = """
>>> from graftrules.lots import after, Lot, steps
>>> lot = Lot([(("f", ("a",)), ("b",)), (("a",), ("c",)), (("f", ("c",)), ("b",))])
>>> tree = ("g", ("f", ("a",)))
>>> [len(lot), (("a",), ("c",)) in lot, after(lot, tree, [((0, 0), 1), ((0,), 2)])]
[3, True, ('g', ('b',))]
>>> list(steps(lot, tree))
[((0,), 0, ('g', ('b',))), ((0, 0), 1, ('g', ('f', ('c',))))]
"""


class TestExamples(unittest.TestCase):
    def run_example(self, text, name):
        example = doctest.DocTestParser().get_doctest(text, {}, name, None, 0)
        self.assertTrue(example.examples)
        said = []
        result = doctest.DocTestRunner(verbose=False).run(example, out=said.append)
        self.assertEqual(result.failed, 0, "".join(said))

    def test_stage_1(self):
        self.run_example(STAGE_1, "stage 1")

    def test_stage_2(self):
        self.run_example(STAGE_2, "stage 2")
