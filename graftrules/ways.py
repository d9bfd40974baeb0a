"""Which tree becomes which, and by how few steps."""

from graftrules.errors import NoStep, TooLong
from graftrules.lots import after
from graftrules.tables import PartList, Table, way_of

MOST_TOLD_STEPS = 200


def least_steps(lot, tree, other):
    """Return the least number of steps of a way from a tree to another one, None if there is no way."""
    return Table(lot.rules(), [tree, other]).least(tree, other)


def number_table(lot, tree, other):
    """Return the list of the tuples (u, v, least number of steps) for all pairs of the table of a lot and two trees."""
    table = Table(lot.rules(), [tree, other])
    return [(table.trees[start], table.trees[goal], table.numbers[start][goal]) for start, goal in table.told_pairs()]


def becomes(lot, tree, other):
    """Return ("yes", a way with the least number of steps) or ("no", a fence)."""
    table = Table(lot.rules(), [tree, other])
    number = table.least(tree, other)
    if number is None:
        return "no", [(table.trees[start], table.trees[goal]) for start, goal in table.told_pairs()]
    if number > MOST_TOLD_STEPS:
        raise TooLong(number)
    return "yes", way_of(table, table.number_of(tree), table.number_of(other))


def is_way(lot, tree, other, value):
    """Tell whether a value, which may be any value, is a way from a tree to another one."""
    try:
        return after(lot, tree, value) == other
    except NoStep:
        return False


def rows_of(part_list, value):
    """Return for each part the dict of the parts that a list of different pairs puts behind it.

    None if the value, which may be any value, is no list of different pairs of these parts.
    """
    # The first question bounds how much of the value is looked at.
    if not isinstance(value, list) or len(value) > len(part_list.trees) * len(part_list.trees):
        return None
    rows = [{} for _ in part_list.trees]
    for pair in value:
        if not isinstance(pair, tuple) or len(pair) != 2:
            return None
        start, goal = part_list.number_of(pair[0]), part_list.number_of(pair[1])
        if start is None or goal is None or goal in rows[start]:
            return None
        rows[start][goal] = True
    return rows


def is_closed(part_list, rows):
    """Tell whether pairs of parts meet the three conditions of a table."""
    for number, row in enumerate(rows):
        if number not in row:
            return False
    for one, other in part_list.alike():
        below = part_list.child_pairs(one, other)
        if other not in rows[one] and all([goal in rows[start] for start, goal in below]):
            return False
    for left, right in part_list.pairs:
        for row in rows:
            if left in row and not all([goal in row for goal in rows[right]]):
                return False
    return True


def is_fence(lot, tree, other, value):
    """Tell whether a value, which may be any value, is a fence for a tree and another one."""
    part_list = PartList(lot.rules(), [tree, other])
    rows = rows_of(part_list, value)
    if rows is None or part_list.number_of(other) in rows[part_list.number_of(tree)]:
        return False
    return is_closed(part_list, rows)
