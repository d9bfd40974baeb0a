"""How many trees of some signs are still, and which ones."""

from graftrules.ends import is_still, left_sides
from graftrules.trees import every_part, ordered


def rows_of_sizes(many, nodes):
    """List the rows of so many sizes of trees that are so many nodes together."""
    if many == 0:
        return [()] if nodes == 0 else []
    found = []
    for first in range(1, nodes + 1):
        found.extend([(first,) + row for row in rows_of_sizes(many - 1, nodes - first)])
    return found


def rows_of_trees(by_size, row):
    """List the rows of trees of the sizes of a row; by_size lists the trees of each size."""
    rows = [()]
    for nodes in row:
        rows = [before + (tree,) for before in rows for tree in by_size[nodes]]
    return rows


def count_of_rows(counts, row):
    """Return how many rows of trees have the sizes of a row, if there are so many trees of each size."""
    many = 1
    for nodes in row:
        many = many * counts[nodes]
    return many


def sizes_of_nearly_still(lot, signs):
    """List the sizes of the different left sides of which all signs are told and all children are still."""
    found = []
    for left in ordered(left_sides(lot)):
        told = every_part(left)
        known = all([(part[0], len(part) - 1) in signs for part in told])
        if known and all([is_still(lot, child) for child in left[1:]]):
            found.append(len(told))
    return found


def still_count(lot, signs, size):
    """Return how many trees of some signs and of a size are still."""
    nearly = sizes_of_nearly_still(lot, signs)
    counts = [0]
    for nodes in range(1, size + 1):
        # A tree whose children are still is still, too, unless it is a left side.
        built = [count_of_rows(counts, row) for _, many in signs for row in rows_of_sizes(many, nodes - 1)]
        counts.append(sum(built) - nearly.count(nodes))
    return counts[size]


def still_trees(lot, signs, most):
    """Yield all still trees of some signs that have at most so many nodes, in order."""
    lefts = left_sides(lot)
    by_size = [[]]
    for nodes in range(1, most + 1):
        built = []
        for name, many in signs:
            for row in rows_of_sizes(many, nodes - 1):
                built.extend([(name,) + children for children in rows_of_trees(by_size, row)])
        found = sorted([tree for tree in built if tree not in lefts])
        by_size.append(found)
        for tree in found:
            yield tree
