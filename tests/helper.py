"""What several tests use: values of all kinds, trees and lots to try things on, and answers by the definitions."""

import random
from itertools import product

from graftrules.errors import BadLot
from graftrules.lots import Lot, steps
from graftrules.trees import places, put, size

A = ("a",)
B = ("b",)
C = ("c",)
D = ("d",)
Z = ("z",)
AB = (A, B)
BC = (B, C)
LETTERS = [(letter,) for letter in "abcdefghi"]
# Each of these eight steps is needed at each leaf a.
CHAIN = Lot([(LETTERS[k], LETTERS[k + 1]) for k in range(8)])
SIGNS = [("a", 0), ("b", 0), ("c", 0), ("f", 1), ("h", 2)]


def fours(tree):
    """Return a tree with four children that are all the same."""
    return ("f", tree, tree, tree, tree)


def nested(value, levels, wrap):
    """Return a value within so many levels of what wrap puts around it."""
    for _ in range(levels):
        value = wrap(value)
    return value


def any_values():
    """List new values of all the kinds that a parameter may get which accepts any value; none is a tree."""
    deep = [
        nested(0, 50, lambda value: [value]),
        nested((), 50, lambda value: (value,)),
        nested(None, 50, lambda value: {"a": value}),
        nested((), 50, lambda value: ("f", value)),
        nested(0, 50, lambda value: ("f", ("a",), value)),
        nested("a", 25, lambda value: [{"k": (value, 1)}]),
    ]
    flat = [
        0, 1, 2, -1, -2, 7, 8, 10 ** 30, -10 ** 30, True, False, None,
        "", "a", "ab", "f(a)", "a -> b", "\u00e9", "\n",
        (), ("",), ("A",), (0,), (True,), (None,), ((),), ("a", "b"), ("a", 0), ("a", None), ("a", ()), (0, 0), (-1,),
        [], [0], ["a"], [("a",)], [("a",), ("b",)], [[]], [None],
        {}, {"a": 1}, {0: ("a",)}, {("a",): ("b",)}, {0: [], 1: {}},
    ]
    return flat + deep


def trees_up_to(most, names):
    """List all trees of at most so many nodes with these names, each once."""
    by_size = {}
    for nodes in range(1, most + 1):
        found = []
        for name in names:
            for sizes in sizes_of_children(nodes - 1):
                for children in product(*[by_size[child] for child in sizes]):
                    found.append((name,) + children)
        by_size[nodes] = found
    return [tree for nodes in by_size for tree in by_size[nodes]]


def sizes_of_children(nodes):
    """List the rows of at most four sizes that are so many nodes together."""
    rows = []
    for many in range(5):
        rows.extend([row for row in product(range(1, nodes + 1), repeat=many) if sum(row) == nodes])
    return rows


def branches(number, children, leaf):
    """Return the least full tree of nodes f with so many children that has so many leaves, or more."""
    tree, leaves = leaf, 1
    waiting = [()]
    while leaves < number:
        place = waiting.pop(0)
        tree = put(tree, place, ("f",) + (leaf,) * children)
        waiting.extend([place + (child,) for child in range(children)])
        leaves += children - 1
    return tree


def tree_by(chance, levels, signs):
    """Return a tree of at most so many levels, as a random source tells."""
    name, many = chance.choice([sign for sign in signs if levels > 1 or sign[1] == 0])
    return (name,) + tuple(tree_by(chance, levels - 1, signs) for _ in range(many))


def rule_by(chance, signs):
    """Return a rule, as a random source tells."""
    while True:
        left, right = tree_by(chance, 3, signs), tree_by(chance, 3, signs)
        if left != right and max(size(left), size(right)) <= 6:
            return left, right


def lots_by(seed, many, rules, signs):
    """List so many lots of at most so many rules; the same ones for each seed."""
    chance = random.Random(seed)
    found = []
    while len(found) < many:
        told = []
        for _ in range(chance.randint(0, rules)):
            rule = rule_by(chance, signs)
            if rule not in told:
                told.append(rule)
        try:
            found.append(Lot(told))
        except BadLot:
            continue
    return found


def trees_behind(lot, tree, most):
    """Return the dict of the trees that ways of at most so many steps lead to, with their least numbers of steps."""
    found = {tree: 0}
    last = [tree]
    for number in range(1, most + 1):
        behind = []
        for now in last:
            for _, _, other in steps(lot, now):
                if other not in found:
                    found[other] = number
                    behind.append(other)
        last = behind
    return found


def parts_told(lot, *trees):
    """List the parts of the sides of the rules and of some trees, in order, from the definition."""
    found = {part for tree in trees for _, part in places(tree)}
    for left, right in lot.rules():
        found |= {part for side in (left, right) for _, part in places(side)}
    return sorted(found, key=lambda tree: (size(tree), tree))


def sums_for(lot, one, other, numbers):
    """List all sums of point 9 for a pair of parts, as far as the numbers are known."""
    found = [0] if one == other else []
    if one[0] == other[0] and len(one) == len(other):
        below = list(zip(one[1:], other[1:]))
        if all(pair in numbers for pair in below):
            found.append(sum(numbers[pair] for pair in below))
    for left, right in lot.rules():
        if (one, left) in numbers and (right, other) in numbers:
            found.append(numbers[one, left] + 1 + numbers[right, other])
    return found


def table_by_definition(lot, tree, other):
    """Return the dict of the numbers of all pairs of a table: pairs are added and numbers lowered while any can be."""
    told = parts_told(lot, tree, other)
    numbers = {}
    going = True
    while going:
        going = False
        for one in told:
            for two in told:
                sums = sums_for(lot, one, two, numbers)
                if sums and min(sums) < numbers.get((one, two), min(sums) + 1):
                    numbers[one, two] = min(sums)
                    going = True
    return numbers


def is_closed_by_definition(lot, tree, other, pairs):
    """Tell whether the pairs meet the three conditions of point 8."""
    told = parts_told(lot, tree, other)
    numbers = {pair: 0 for pair in pairs}
    return all((one, two) in numbers or not sums_for(lot, one, two, numbers) for one in told for two in told)
