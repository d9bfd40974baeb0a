"""What several tests use: values of all kinds, trees and lots to try things on, and answers by the definitions."""

import random
from itertools import product

from graftrules.errors import BadLot
from graftrules.lots import Lot, steps
from graftrules.trees import places, put, size

A = ("a",)
B = ("b",)
C = ("c",)
D = ("d",)
Z = ("z",)
AB = (A, B)
BC = (B, C)
LETTERS = [(letter,) for letter in "abcdefghi"]
# Each of these eight steps is needed at each leaf a.
CHAIN = Lot([(LETTERS[k], LETTERS[k + 1]) for k in range(8)])
SIGNS = [("a", 0), ("b", 0), ("c", 0), ("f", 1), ("h", 2)]
# Its trees grow without end, and a becomes z all the same.
GROWING = Lot([(A, ("f", A, A)), (("f", B, B), C), (A, B), (("f", C, C), Z), (Z, ("f", Z, A))])
# Lots with eight rules whose told parts have very great least numbers of steps between them.
WILD = Lot([
    (("g", ("f", C), ("g", C, C)), ("k", A, A)),
    (("f", ("k", C, C)), ("g", ("d",), ("d",))),
    (("k", ("k", ("f", B), B), B), C),
    (("k", ("f", A), ("k", A, A)), B),
    (("d",), ("k", ("d",), ("d",))),
    (("d",), A),
    (("f", ("f", A)), ("h", A, ("h", A, A))),
    (A, ("f", ("d",))),
])
# Two rules with twenty-four told parts, of which no two have anything in common, and six rules between them.
WIDE_SIDES = [(s + "f", (s + "g", (s + "h", (s + "a",))), (s + "b",), (s + "c",)) for s in "pqrs"]
WIDE = Lot([
    (WIDE_SIDES[0], WIDE_SIDES[1]), (WIDE_SIDES[2], WIDE_SIDES[3]), (("pa",), ("qa",)), (("qa",), ("pa",)),
    (("pb",), WIDE_SIDES[0]), (("pc",), ("pb",)), (("pb",), ("pc",)), (WIDE_SIDES[1], ("rh", ("ra",))),
])


def fours(tree):
    """Return a tree with four children that are all the same."""
    return ("f", tree, tree, tree, tree)


def forty(leaf, other):
    """Return a tree of forty nodes and four levels."""
    low = ("f", leaf, other, leaf)
    return ("g", ("f", low, low, low), ("f", low, low, low, leaf), ("f", low, low, leaf, other), leaf)


def nested(value, levels, wrap):
    """Return a value within so many levels of what wrap puts around it."""
    for _ in range(levels):
        value = wrap(value)
    return value


def any_values():
    """List new values of all the kinds that a parameter may get which accepts any value; none is a tree."""
    deep = [
        nested(0, 50, lambda value: [value]),
        nested((), 50, lambda value: (value,)),
        nested(None, 50, lambda value: {"a": value}),
        nested((), 50, lambda value: ("f", value)),
        nested(0, 50, lambda value: ("f", ("a",), value)),
        nested("a", 25, lambda value: [{"k": (value, 1)}]),
    ]
    flat = [
        0, 1, 2, -1, -2, 7, 8, 10 ** 30, -10 ** 30, True, False, None,
        "", "a", "ab", "f(a)", "a -> b", "\u00e9", "\n",
        (), ("",), ("A",), (0,), (True,), (None,), ((),), ("a", "b"), ("a", 0), ("a", None), ("a", ()), (0, 0), (-1,),
        [], [0], ["a"], [("a",)], [("a",), ("b",)], [[]], [None],
        {}, {"a": 1}, {0: ("a",)}, {("a",): ("b",)}, {0: [], 1: {}},
    ]
    return flat + deep


def trees_up_to(most, names):
    """List all trees of at most so many nodes with these names, each once."""
    by_size = {}
    for nodes in range(1, most + 1):
        found = []
        for name in names:
            for sizes in sizes_of_children(nodes - 1):
                for children in product(*[by_size[child] for child in sizes]):
                    found.append((name,) + children)
        by_size[nodes] = found
    return [tree for nodes in by_size for tree in by_size[nodes]]


def sizes_of_children(nodes):
    """List the rows of at most four sizes that are so many nodes together."""
    rows = []
    for many in range(5):
        rows.extend([row for row in product(range(1, nodes + 1), repeat=many) if sum(row) == nodes])
    return rows


def branches(number, children, leaf):
    """Return the least full tree of nodes f with so many children that has so many leaves, or more."""
    tree, leaves = leaf, 1
    waiting = [()]
    while leaves < number:
        place = waiting.pop(0)
        tree = put(tree, place, ("f",) + (leaf,) * children)
        waiting.extend([place + (child,) for child in range(children)])
        leaves += children - 1
    return tree


def trees_of(signs, most):
    """List for each number of nodes, from none up to the most, all trees of some signs."""
    by_nodes = [[]]
    for nodes in range(1, most + 1):
        found = []
        for name, many in signs:
            for sizes in product(range(1, nodes), repeat=many):
                if sum(sizes) == nodes - 1:
                    found += [(name,) + row for row in product(*[by_nodes[child] for child in sizes])]
        by_nodes.append(found)
    return by_nodes


def tree_by(chance, levels, signs):
    """Return a tree of at most so many levels, as a random source tells."""
    name, many = chance.choice([sign for sign in signs if levels > 1 or sign[1] == 0])
    return (name,) + tuple(tree_by(chance, levels - 1, signs) for _ in range(many))


def rule_by(chance, signs):
    """Return a rule, as a random source tells."""
    while True:
        left, right = tree_by(chance, 3, signs), tree_by(chance, 3, signs)
        if left != right and max(size(left), size(right)) <= 6:
            return left, right


def lots_by(seed, many, rules, signs):
    """List so many lots of at most so many rules; the same ones for each seed."""
    chance = random.Random(seed)
    found = []
    while len(found) < many:
        told = []
        for _ in range(chance.randint(0, rules)):
            rule = rule_by(chance, signs)
            if rule not in told:
                told.append(rule)
        try:
            found.append(Lot(told))
        except BadLot:
            continue
    return found


def growing(chance):
    """Return a lot whose left sides have letters ahead of those of their right sides, so that it ends."""
    rules = []
    for at in [0, 1, 2, 3, chance.randrange(4), chance.randrange(4)]:
        low, high = LETTERS[at], LETTERS[at + 1:at + 3]
        left = low if len(rules) < 4 else chance.choice([("f", low, low), ("f", low, high[0]), ("g", low)])
        right = tree_by(chance, 2, [("f", 2), ("g", 1), (high[0][0], 0), (high[1][0], 0)])
        if (left, right) not in rules:
            rules.append((left, right))
    return Lot(rules)


def near_by(tree, most, behind):
    """Return the dict of the trees that at most so many steps lead to, each with the least number of steps.

    behind lists the trees to which one step leads.
    """
    found = {tree: 0}
    last = [tree]
    for number in range(1, most + 1):
        further = []
        for now in last:
            for other in behind(now):
                if other not in found:
                    found[other] = number
                    further.append(other)
        last = further
    return found


def trees_behind(lot, tree, most):
    """Return the dict of the trees that ways of at most so many steps lead to, with their least numbers of steps."""
    return near_by(tree, most, lambda now: [other for _, _, other in steps(lot, now)])


def parts_told(lot, *trees):
    """List the parts of the sides of the rules and of some trees, in order, from the definition."""
    found = {part for tree in trees for _, part in places(tree)}
    for left, right in lot.rules():
        found |= {part for side in (left, right) for _, part in places(side)}
    return sorted(found, key=lambda tree: (size(tree), tree))


def sums_for(lot, one, other, numbers):
    """List all sums of point 9 for a pair of parts, as far as the numbers are known."""
    found = [0] if one == other else []
    if one[0] == other[0] and len(one) == len(other):
        below = list(zip(one[1:], other[1:]))
        if all(pair in numbers for pair in below):
            found.append(sum(numbers[pair] for pair in below))
    for left, right in lot.rules():
        if (one, left) in numbers and (right, other) in numbers:
            found.append(numbers[one, left] + 1 + numbers[right, other])
    return found


def table_by_definition(lot, tree, other):
    """Return the dict of the numbers of all pairs of a table: pairs are added and numbers lowered while any can be."""
    told = parts_told(lot, tree, other)
    numbers = {}
    going = True
    while going:
        going = False
        for one in told:
            for two in told:
                sums = sums_for(lot, one, two, numbers)
                if sums and min(sums) < numbers.get((one, two), min(sums) + 1):
                    numbers[one, two] = min(sums)
                    going = True
    return numbers


def is_closed_by_definition(lot, tree, other, pairs):
    """Tell whether the pairs meet the three conditions of point 8."""
    told = parts_told(lot, tree, other)
    numbers = {pair: 0 for pair in pairs}
    return all((one, two) in numbers or not sums_for(lot, one, two, numbers) for one in told for two in told)


def in_order(trees):
    """List different trees in order, from the definition."""
    return sorted(set(trees), key=lambda tree: (size(tree), tree))


def signs_of(lot):
    """List the signs of the told parts of a lot."""
    return sorted({(part[0], len(part) - 1) for part in parts_told(lot)})


def all_behind(lot, tree):
    """Return the set of all trees that a tree becomes, in a lot that ends."""
    found = {tree}
    waiting = [tree]
    while waiting:
        for _, _, other in steps(lot, waiting.pop()):
            if other not in found:
                found.add(other)
                waiting.append(other)
    return found


def ends_by_going(lot, tree):
    """List the ends of a tree in a lot that ends: all trees that it becomes are gone to."""
    return in_order([other for other in all_behind(lot, tree) if not list(steps(lot, other))])


def least_equals(lot, trees):
    """Return the dict of the least equal one of each of some trees, among which are all their parts and told parts.

    From the definition: classes are put together while sides of rules or trees with equal children are in two.
    """
    least = {tree: tree for tree in trees}

    def put_together(one, other):
        low, high = in_order([least[one], least[other]])
        for tree in trees:
            if least[tree] == high:
                least[tree] = low

    for left, right in lot.rules():
        if least[left] != least[right]:
            put_together(left, right)
    going = True
    while going:
        going = False
        known = {}
        for tree in trees:
            like = known.setdefault((tree[0],) + tuple(least[child] for child in tree[1:]), tree)
            if least[like] != least[tree]:
                put_together(like, tree)
                going = True
    return least
