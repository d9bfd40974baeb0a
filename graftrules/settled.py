"""The settled list of a lot, and the least trees that are equal to others."""

from graftrules.equals import both_ways
from graftrules.tables import Table, least_before
from graftrules.trees import rank


def settled(lot):
    """Return the settled list of a lot."""
    table = Table(both_ways(lot), [])
    least = least_before(table)
    found = []
    for part, children in enumerate(table.children):
        left = table.trees[part][:1] + tuple([least[child] for child in children])
        if left != least[part] and (left, least[part]) not in found:
            found.append((left, least[part]))
    return sorted(found, key=lambda rule: rank(rule[0]))


def least_equal(lot, tree):
    """Return the least tree that is equal to a tree."""
    table = Table(both_ways(lot), [tree])
    return least_before(table)[table.number_of(tree)]


def same_equalities(one, other):
    """Tell whether two lots have the same equalities."""
    return settled(one) == settled(other)
