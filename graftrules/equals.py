"""Which trees are equal if the rules may be used both ways."""

from graftrules.errors import TooLong
from graftrules.lots import tree_behind
from graftrules.tables import PartList, Table, way_of
from graftrules.ways import MOST_TOLD_STEPS


def both_ways(lot):
    """List the rules of a lot, and behind them the same ones with their sides exchanged."""
    return lot.rules() + lot.turned().rules()


def least_bridge(lot, tree, other):
    """Return the least number of steps of a bridge from a tree to another one, None if there is none."""
    return Table(both_ways(lot), [tree, other]).least(tree, other)


def classes_of(table):
    """List the classes of equal parts of a table of rules both ways, each in order, in order of their first trees."""
    found = []
    for part, row in enumerate(table.numbers):
        told = sorted(row)
        if told[0] == part:
            found.append([table.trees[number] for number in told])
    return found


def equal(lot, tree, other):
    """Return ("yes", a bridge with the least number of steps) or ("no", a parting)."""
    table = Table(both_ways(lot), [tree, other])
    number = table.least(tree, other)
    if number is None:
        return "no", classes_of(table)
    if number > MOST_TOLD_STEPS:
        raise TooLong(number)
    many = len(lot)
    way = way_of(table, table.number_of(tree), table.number_of(other))
    return "yes", [(place, rule, True) if rule < many else (place, rule - many, False) for place, rule in way]


def is_bridge(lot, tree, other, value):
    """Tell whether a value, which may be any value, is a bridge from a tree to another one."""
    if not isinstance(value, list):
        return False
    turned = lot.turned()
    now = tree
    for step in value:
        if not isinstance(step, tuple) or len(step) != 3 or not isinstance(step[2], bool):
            return False
        now = tree_behind(lot if step[2] else turned, now, step[:2])
        if now is None:
            return False
    return now == other


def class_numbers(part_list, value):
    """Return the dict of the number of the class of each part.

    None if the value, which may be any value, is no list of classes in which each part stands just once.
    """
    if not isinstance(value, list):
        return None
    found = {}
    for number, told in enumerate(value):
        if not isinstance(told, list) or not told:
            return None
        for tree in told:
            part = part_list.number_of(tree)
            if part is None or part in found:
                return None
            found[part] = number
    return found if len(found) == len(part_list.trees) else None


def is_parting(lot, tree, other, value):
    """Tell whether a value, which may be any value, is a parting of two trees."""
    part_list = PartList(lot.rules(), [tree, other])
    found = class_numbers(part_list, value)
    if found is None or found[part_list.number_of(tree)] == found[part_list.number_of(other)]:
        return False
    if not all([found[left] == found[right] for left, right in part_list.pairs]):
        return False
    for one, two in part_list.alike():
        below = part_list.child_pairs(one, two)
        if found[one] != found[two] and all([found[first] == found[second] for first, second in below]):
            return False
    return True


def classes(lot):
    """Return the list of the classes of a lot, each in order, in order of their first trees."""
    return classes_of(Table(both_ways(lot), []))
