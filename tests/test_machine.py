"""Tests of graftrules.machine: points 3 and 10."""

import copy
import inspect
import itertools
import random
import unittest

from graftrules import machine
from graftrules.errors import TooMany
from graftrules.lots import Lot
from graftrules.machine import Machine, reading
from graftrules.trees import size
from graftrules.ways import least_steps
from tests.helper import A, AB, B, BC, C, D, GROWING, SIGNS, lots_by, table_by_definition, tree_by, trees_of

MANY = lots_by(21, 60, 6, SIGNS)
# With these signs the first one has sixty readings, the second one sixty-one.
SIXTY = (
    Lot([
        (("f", A), C), (("f", D), A), (("k", D, ("f", ("f", B))), C), (("f", D), D),
        (("h", ("k", C, A), ("f", C)), ("k", B, D)), (("k", D, B), A), (("f", ("k", ("f", D), ("f", A))), D),
        (("f", ("f", C)), B),
    ]),
    [("d", 0), ("c", 0), ("f", 1), ("k", 2), ("h", 2)],
)
SIXTY_ONE = (
    Lot([
        (("f", A), C), (("f", D), A), (("k", D, ("f", ("f", B))), C), (("f", D), D), (("k", B, A), B),
        (("k", D, B), A), (("f", ("k", A, ("f", C))), D), (("f", ("f", C)), B),
    ]),
    [("a", 0), ("b", 0), ("f", 1), ("k", 2), ("h", 2)],
)
# Some of its readings have only very great trees.
GREAT = (
    Lot([
        (("k", D, D), A), (("k", B, B), C), (("g", C, ("k", C, C)), D), (("g", B, C), C), (D, A),
        (("g", D, A), ("h", C, D)), (("g", A, B), B), (("k", A, A), B),
    ]),
    [("f", 1), ("k", 2), ("g", 2), ("h", 2), ("a", 0)],
)


def reading_by_ways(lot, tree):
    return [part for part in lot.parts() if least_steps(lot, tree, part) is not None]


def count_nodes(tree, known):
    """Return the number of nodes of a tree that may hold the same objects very often."""
    if id(tree) not in known:
        known[id(tree)] = 1 + sum(count_nodes(child, known) for child in tree[1:])
    return known[id(tree)]


class TestInterface(unittest.TestCase):
    def test_defined_in_its_file(self):
        for name in ("reading", "Machine"):
            self.assertEqual(getattr(machine, name).__module__, "graftrules.machine")

    def test_methods_stand_in_the_class(self):
        for name in ("__init__", "readings", "__len__", "after", "how_many"):
            self.assertIn(name, vars(Machine))

    def test_names_of_arguments(self):
        lot = Lot([(("f", A), A)])
        made = Machine(lot=lot, signs=[("a", 0), ("f", 1)], limit=2)
        self.assertEqual(made.after(name="f", numbers=[0]), 1)
        self.assertEqual(made.how_many(part=A, size=3), 1)
        self.assertEqual(reading(lot=lot, tree=A), [A])

    def test_limit_is_passed_by_name(self):
        limit = inspect.signature(Machine).parameters["limit"]
        self.assertEqual([limit.kind, limit.default], [inspect.Parameter.KEYWORD_ONLY, 60])
        self.assertRaises(TypeError, Machine, Lot([]), [("a", 0)], 60)


class TestReading(unittest.TestCase):
    def test_empty_lot(self):
        for tree in (A, ("f", A, B)):
            self.assertEqual(reading(Lot([]), tree), [])

    def test_ascending(self):
        lot = Lot([(("f", ("b",), ("a",)), ("f", ("a", A), B)), (A, B), (B, A), (("f", ("a", A), B), A)])
        self.assertEqual(reading(lot, A), [A, B])
        self.assertEqual(reading(lot, ("f", B, B)), [A, B, ("f", B, A), ("f", ("a", A), B)])
        self.assertEqual(reading(lot, ("f", ("a", B), A)), [A, B, ("f", ("a", A), B)])
        self.assertEqual(reading(lot, ("a", B)), [("a", A)])

    def test_trees_of_other_signs(self):
        lot = Lot([(("f", A), A)])
        for tree in (B, ("g", A), ("f", B), ("f", A, A), ("a", A), ("f",), ("f", ("f", ("f", A), A))):
            self.assertEqual(reading(lot, tree), [])
        self.assertEqual(reading(lot, ("f", ("f", A))), [A, ("f", A)])

    def test_by_definition(self):
        chance = random.Random(22)
        for lot in MANY + [GROWING, SIXTY[0], GREAT[0]]:
            for tree in [tree_by(chance, levels, SIGNS) for levels in (1, 3, 4)] + lot.parts()[-1:]:
                numbers = table_by_definition(lot, tree, tree)
                told = [part for part in lot.parts() if (tree, part) in numbers]
                self.assertEqual(reading(lot, tree), told, (lot.rules(), tree))

    def test_great_trees_that_grow_without_end(self):
        tree = A
        for _ in range(5):
            tree = ("f", tree, A)
            self.assertEqual(reading(GROWING, tree), reading_by_ways(GROWING, tree))
        self.assertEqual(reading(GROWING, ("f", ("f", A, A), A)), [("z",), ("f", C, C), ("f", ("z",), A)])

    def test_returned_lists_are_new(self):
        lot = Lot([AB])
        self.assertIsNot(reading(lot, A), reading(lot, A))
        reading(lot, A).append(0)
        self.assertEqual(reading(lot, A), [A, B])
        self.assertEqual(lot.parts(), [A, B])


class TestReadings(unittest.TestCase):
    def assertFirstReadings(self, lot, signs, most):
        """Compare with all trees of at most so many nodes; the readings of greater ones stand behind these."""
        expected = []
        for tree in sorted(itertools.chain(*trees_of(signs, most)), key=lambda tree: (size(tree), tree)):
            told = reading_by_ways(lot, tree)
            if told not in [known for known, _ in expected]:
                expected.append((told, tree))
        made = Machine(lot, signs)
        found = made.readings()
        self.assertEqual(found[:len(expected)], expected, (lot.rules(), signs))
        for told, tree in found[len(expected):]:
            self.assertGreater(size(tree), most)
            self.assertEqual(reading(lot, tree), told)
        self.assertEqual(len(made), len(found))
        self.assertEqual(len({tuple(told) for told, _ in found}), len(found))
        ranks = [(size(tree), tree) for _, tree in found]
        self.assertEqual(ranks, sorted(ranks))

    def test_order_of_least_trees(self):
        lot = Lot([(("f", A), A)])
        self.assertEqual(Machine(lot, [("f", 1), ("b", 0), ("a", 0)]).readings(), [
            ([A], A), ([], B), ([A, ("f", A)], ("f", A))])
        # In Python's order of tuples the greater one of both children stands first.
        lot = Lot([(("f", ("a", A), B), ("f", B, ("a", A)))])
        self.assertEqual([tree for _, tree in Machine(lot, [("a", 0), ("a", 1), ("b", 0), ("f", 2)]).readings()], [
            A, B, ("a", A), ("a", B), ("f", ("a", A), B), ("f", B, ("a", A))])

    def test_many_lots(self):
        chance = random.Random(23)
        for lot in MANY:
            signs = chance.sample(SIGNS, chance.randint(1, 4)) + [("d", 0)]
            self.assertFirstReadings(lot, signs, 4 if len(signs) < 5 else 3)

    def test_one_sign(self):
        for lot, told in ((Lot([]), []), (Lot([AB]), [A, B]), (Lot([BC]), [])):
            made = Machine(lot, [("a", 0)])
            self.assertEqual(made.readings(), [(told, A)])
            self.assertEqual(len(made), 1)
            self.assertEqual(made.after("a", []), 0)

    def test_five_signs(self):
        for lot in MANY[:10] + [SIXTY[0]]:
            self.assertFirstReadings(lot, SIGNS, 3)

    def test_signs_that_the_lot_has_not(self):
        lot = Lot([(("f", A), A), AB])
        for signs in ([("x", 0)], [("x", 0), ("f", 2)], [("f", 0), ("a", 1), ("b", 2)], [("x", 0), ("y", 1), ("z", 2)]):
            self.assertEqual([told for told, _ in Machine(lot, signs).readings()], [[]], signs)
        self.assertEqual(Machine(lot, [("x", 0), ("b", 0)]).readings(), [([B], B), ([], ("x",))])

    def test_one_name_with_several_numbers_of_children(self):
        lot = Lot([(("a", A), A), (("a", A, A), ("a", A))])
        signs = [("a", 0), ("a", 1), ("a", 2)]
        self.assertFirstReadings(lot, signs, 6)
        self.assertEqual(Machine(lot, signs).readings(), [
            ([A], A), ([A, ("a", A)], ("a", A)), ([A, ("a", A), ("a", A, A)], ("a", A, A))])

    def test_trees_that_grow_without_end(self):
        self.assertFirstReadings(GROWING, [("a", 0), ("b", 0), ("f", 2)], 7)
        self.assertFirstReadings(GROWING, [("z", 0), ("f", 2)], 7)

    def test_sixty_readings(self):
        for lot, signs in (SIXTY, (SIXTY_ONE[0], SIXTY_ONE[1][1:] + [("c", 0)])):
            self.assertFirstReadings(lot, signs, 4)
        self.assertEqual(len(Machine(*SIXTY)), 60)

    def test_very_great_least_trees(self):
        made = Machine(*GREAT)
        known = {}
        nodes = [count_nodes(tree, known) for _, tree in made.readings()]
        self.assertEqual(nodes, sorted(nodes))
        self.assertEqual([len(nodes), nodes[-1]], [len(made), 15551])
        numbers = {id(tree): number for number, (_, tree) in enumerate(made.readings())}
        for number, (_, tree) in enumerate(made.readings()):
            self.assertEqual(made.after(tree[0], [numbers[id(child)] for child in tree[1:]]), number)

    def test_order_of_signs_does_not_matter(self):
        chance = random.Random(24)
        signs = list(SIXTY[1])
        before = Machine(SIXTY[0], signs).readings()
        for _ in range(3):
            chance.shuffle(signs)
            self.assertEqual(Machine(SIXTY[0], signs).readings(), before)


class TestLimit(unittest.TestCase):
    def assertTooMany(self, lot, signs, limit):
        with self.assertRaises(TooMany) as caught:
            Machine(lot, signs, limit=limit)
        self.assertEqual(caught.exception.limit, limit)

    def test_just_as_many_and_one_more(self):
        chance = random.Random(25)
        seen = []
        for lot in MANY:
            signs = chance.sample(SIGNS, 3) + [("d", 0)]
            many = len(Machine(lot, signs))
            seen.append(many)
            self.assertEqual(len(Machine(lot, signs, limit=many)), many)
            for limit in range(1, many):
                self.assertTooMany(lot, signs, limit)
        self.assertGreater(max(seen), 4)

    def test_limit_of_one(self):
        self.assertEqual(len(Machine(Lot([]), SIGNS, limit=1)), 1)
        self.assertEqual(len(Machine(Lot([AB]), [("a", 0)], limit=1)), 1)
        self.assertTooMany(Lot([AB]), [("a", 0), ("b", 0)], 1)
        self.assertTooMany(Lot([AB]), [("a", 0), ("f", 1)], 1)

    def test_limit_of_sixty(self):
        self.assertEqual(len(Machine(*SIXTY, limit=60)), 60)
        self.assertTooMany(*SIXTY, 59)
        self.assertTooMany(*SIXTY_ONE, 60)
        with self.assertRaises(TooMany) as caught:
            Machine(*SIXTY_ONE)
        self.assertEqual(caught.exception.limit, 60)


class TestAfter(unittest.TestCase):
    def assertAllRows(self, lot, signs):
        made = Machine(lot, signs)
        found = made.readings()
        for name, many in signs:
            for numbers in itertools.product(range(len(found)), repeat=many):
                tree = (name,) + tuple(found[number][1] for number in numbers)
                number = made.after(name, list(numbers))
                self.assertEqual(found[number][0], reading(lot, tree), (lot.rules(), tree))

    def test_all_rows(self):
        chance = random.Random(26)
        for lot in MANY:
            self.assertAllRows(lot, chance.sample(SIGNS, 3) + [("d", 0)])
        self.assertAllRows(GROWING, [("a", 0), ("f", 2), ("z", 0)])

    def test_other_trees_with_the_same_readings(self):
        lot = Lot([(("f", A), A), (("h", A, B), B)])
        signs = [("a", 0), ("b", 0), ("f", 1), ("h", 2)]
        made = Machine(lot, signs)
        told = [known for known, _ in made.readings()]
        trees = list(itertools.chain(*trees_of(signs, 4)))
        for one, other in itertools.product(trees, repeat=2):
            numbers = [told.index(reading(lot, tree)) for tree in (one, other)]
            self.assertEqual(told[made.after("h", numbers)], reading(lot, ("h", one, other)))

    def test_one_name_with_several_numbers_of_children(self):
        made = Machine(Lot([(("a", A), A), (("a", A, A), ("a", A))]), [("a", 0), ("a", 1), ("a", 2)])
        self.assertEqual([made.after("a", []), made.after("a", [0]), made.after("a", [2, 1])], [0, 1, 2])

    def test_numbers_stay(self):
        made = Machine(Lot([(("f", A), A)]), [("a", 0), ("f", 1), ("b", 0)])
        numbers = [2]
        self.assertEqual([made.after("f", numbers), made.after("f", numbers), numbers], [2, 2, [2]])


class TestHowMany(unittest.TestCase):
    def test_all_trees_of_few_nodes(self):
        chance = random.Random(27)
        for lot in MANY:
            signs = chance.sample(SIGNS, 3) + [("d", 0)]
            made = Machine(lot, signs)
            counts = {part: [0] * 6 for part in lot.parts()}
            for nodes, trees in enumerate(trees_of(signs, 5)):
                for tree in trees:
                    for part in reading(lot, tree):
                        counts[part][nodes] += 1
            for part in lot.parts():
                found = [made.how_many(part, nodes) for nodes in range(1, 6)]
                self.assertEqual(found, counts[part][1:], (lot.rules(), part))

    def test_trees_of_one_sign(self):
        self.assertEqual(Machine(Lot([AB]), [("a", 0)]).how_many(B, 1), 1)
        self.assertEqual(Machine(Lot([AB]), [("a", 0)]).how_many(B, 2), 0)
        self.assertEqual(Machine(Lot([BC]), [("a", 0)]).how_many(B, 1), 0)

    def test_up_to_twelve_nodes(self):
        chains = Machine(Lot([(("f", A), A)]), [("a", 0), ("f", 1), ("b", 0)])
        self.assertEqual([chains.how_many(A, nodes) for nodes in range(1, 13)], [1] * 12)
        self.assertEqual([chains.how_many(("f", A), nodes) for nodes in range(1, 13)], [0] + [1] * 11)
        pairs = Machine(Lot([(("h", A, A), A)]), [("a", 0), ("h", 2)])
        self.assertEqual([pairs.how_many(A, nodes) for nodes in range(1, 13)], [1, 0, 1, 0, 2, 0, 5, 0, 14, 0, 42, 0])
        both = Machine(Lot([(("h", A, A), A), (("f", A), A)]), [("a", 0), ("f", 1), ("h", 2)])
        motzkin = [1, 1, 2, 4, 9, 21, 51, 127, 323, 835, 2188, 5798]
        self.assertEqual([both.how_many(A, nodes) for nodes in range(1, 13)], motzkin)
        more = Machine(Lot([(("h", A, A), A), (("f", A), A), (B, A)]), SIGNS)
        some = Machine(Lot([(("h", A, A), A), (("f", A), A), (B, A), (C, B)]), SIGNS)
        self.assertEqual([some.how_many(A, nodes) for nodes in range(1, 5)], [3, 3, 12, 30])
        self.assertEqual([more.how_many(A, nodes) for nodes in range(1, 5)], [2, 2, 6, 14])
        self.assertEqual(some.how_many(A, 11), sum(
            # Trees of eleven nodes with so many nodes h: each leaf is one of three.
            motzkin_part * 3 ** (pairs_at + 1) for pairs_at, motzkin_part in enumerate(
                [1, 45, 420, 1050, 630, 42])))

    def test_twelve_nodes_of_many_readings(self):
        for lot, signs in (SIXTY, GREAT, (GROWING, [("a", 0), ("b", 0), ("f", 2), ("z", 0)])):
            made = Machine(lot, signs)
            trees = trees_of(signs, 4)
            for part in lot.parts():
                expected = [sum(part in reading(lot, tree) for tree in trees[nodes]) for nodes in (1, 2, 3, 4)]
                self.assertEqual([made.how_many(part, nodes) for nodes in (1, 2, 3, 4)], expected)
        self.assertEqual([Machine(*SIXTY).how_many(part, 12) for part in SIXTY[0].parts()], counts_by_rows(*SIXTY, 12))
        self.assertEqual([Machine(*GREAT).how_many(part, 12) for part in GREAT[0].parts()], counts_by_rows(*GREAT, 12))

    def test_in_any_order(self):
        lot, signs = Lot([(("h", A, A), A), (("f", A), B)]), [("a", 0), ("f", 1), ("h", 2)]
        made = Machine(lot, signs)
        falling = [made.how_many(A, nodes) for nodes in reversed(range(1, 13))]
        self.assertEqual(falling[::-1], [Machine(lot, signs).how_many(A, nodes) for nodes in range(1, 13)])
        self.assertEqual([made.how_many(A, 12), made.how_many(A, 1)], [falling[0], 1])
        self.assertEqual(made.readings(), Machine(lot, signs).readings())


def counts_by_rows(lot, signs, size_wanted):
    """Return for each told part how many trees of so many nodes become it; trees are counted by their readings."""
    rows = [{}]
    for nodes in range(1, size_wanted + 1):
        counts = {}
        for name, many in signs:
            for sizes in itertools.product(range(1, nodes), repeat=many):
                if sum(sizes) == nodes - 1:
                    for row in itertools.product(*[list(rows[child].values()) for child in sizes]):
                        tree = (name,) + tuple(like for like, _ in row)
                        ways = 1
                        for _, number in row:
                            ways *= number
                        told = tuple(reading_of(lot, tree))
                        like, before = counts.get(told, (tree, 0))
                        counts[told] = (like, before + ways)
        rows.append(counts)
    return [sum(number for told, (_, number) in rows[-1].items() if part in told) for part in lot.parts()]


KNOWN = {}


def reading_of(lot, tree):
    key = (tuple(lot.rules()), tree)
    if key not in KNOWN:
        KNOWN[key] = reading(lot, tree)
    return KNOWN[key]


class TestCopies(unittest.TestCase):
    def test_arguments_stay(self):
        rules = [(("f", A), A), AB]
        lot, signs = Lot(rules), [("a", 0), ("f", 1)]
        made = Machine(lot, signs)
        made.how_many(A, 5)
        self.assertEqual([lot, signs], [Lot(rules), [("a", 0), ("f", 1)]])

    def test_keeps_a_copy(self):
        signs = [("a", 0), ("f", 1)]
        made = Machine(Lot([(("f", A), A)]), signs)
        before = made.readings()
        signs[1] = ("f", 2)
        signs.append(("b", 0))
        self.assertEqual(made.readings(), before)
        self.assertEqual([made.how_many(A, nodes) for nodes in (1, 2, 3)], [1, 1, 1])

    def test_returned_lists_are_new(self):
        made = Machine(Lot([(("f", A), A)]), [("a", 0), ("f", 1), ("b", 0)])
        before = copy.deepcopy(made.readings())
        one, other = made.readings(), made.readings()
        lists = [one, other] + [told for told, _ in one + other]
        self.assertEqual(len({id(told) for told in lists}), len(lists))
        for told in lists:
            told.clear()
        self.assertEqual(made.readings(), before)
        self.assertEqual([made.after("f", [1]), len(made), made.how_many(A, 5)], [1, 3, 1])

    def test_equal_calls_have_equal_results(self):
        one, other = Machine(*SIXTY), Machine(Lot(copy.deepcopy(SIXTY[0].rules())), copy.deepcopy(SIXTY[1]))
        self.assertEqual(one.readings(), other.readings())
