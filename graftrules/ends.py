"""Whether two trees meet again, and which still trees a tree becomes."""

from graftrules.endings import bottom_up, ending, greatest
from graftrules.errors import GoesOn, TooLarge, TooMany
from graftrules.meetings import Meetings
from graftrules.tables import Table, least_before
from graftrules.trees import every_part, ordered, places, put

MOST_NODES = 400
MOST_LEVELS = 6


def meeting(lot, tree, other):
    """Return the meeting number of two trees, None if they do not meet."""
    return Meetings(Table(lot.rules(), [tree, other])).least(tree, other)


def left_sides(lot):
    """List the left sides of the rules, in their order."""
    return [left for left, _ in lot.rules()]


def overlaps(lot):
    """Return the ascending list of the overlaps (number of a rule, place, number of another rule)."""
    lefts = left_sides(lot)
    found = []
    for one, tree in enumerate(lefts):
        for place, part in places(tree):
            # At the empty place the left sides are the same tree, so each two of them are told once.
            others = [other for other, left in enumerate(lefts) if left == part and (place != () or one < other)]
            found.extend([(one, place, other) for other in others])
    return found


def outcomes(lot, overlap):
    """Return the two trees that the steps of an overlap lead to."""
    rules = lot.rules()
    one, place, other = overlap
    return rules[one][1], put(rules[one][0], place, rules[other][1])


def all_meet(lot):
    """Return ("yes", the meeting numbers for all overlaps) or ("no", the first overlap whose outcomes do not meet)."""
    numbers = []
    for overlap in overlaps(lot):
        one, other = outcomes(lot, overlap)
        number = meeting(lot, one, other)
        if number is None:
            return "no", overlap
        numbers.append(number)
    return "yes", numbers


def is_still(lot, tree):
    """Tell whether a tree is still: whether no step can be done in it."""
    lefts = left_sides(lot)
    return not any([part in lefts for part in every_part(tree)])


def bounds_of(table, start, limit):
    """Return for each part that matters how many ends it has at most, if a start has no more than the limit."""
    bounds = {start: limit}
    for part in reversed(bottom_up(table)):
        if part in bounds:
            for right in table.rights_behind(part):
                bounds.setdefault(right, bounds[part])
            # Trees that differ only in the end of one child are ends, too, but for those that are left sides.
            for child in table.children[part]:
                bounds.setdefault(child, bounds[part] + len(table.pairs))
    return bounds


def rows_of_ends(found, children, most):
    """List the rows of ends of some children, in the order of children; only so many, if there are more."""
    rows = [()]
    for child in children:
        # Each child has an end, so rows that are left out here would only be more rows in the end.
        rows = [row + (end,) for row in rows for end in found[child]][:most]
    return rows


def ends_of(table, start, limit):
    """Return the list of the ends of a part, in order; None if there are more than the limit."""
    bounds = bounds_of(table, start, limit)
    lefts = [table.trees[left] for left, _ in table.pairs]
    found = {}
    for part in bottom_up(table):
        if part in bounds:
            rows = rows_of_ends(found, table.children[part], bounds[part] + len(lefts) + 1)
            built = [table.trees[part][:1] + row for row in rows]
            within = [tree for tree in built if tree not in lefts]
            behind = [tree for right in table.rights_behind(part) for tree in found[right]]
            found[part] = ordered(within + behind)
            if len(found[part]) > bounds[part]:
                return None
    return found[start]


def ends(lot, tree, *, limit=50):
    """Return the list of the ends of a tree, in order."""
    nodes, levels = greatest(lot, tree)
    if nodes > MOST_NODES or levels > MOST_LEVELS:
        raise TooLarge(nodes)
    table = Table(lot.rules(), [tree])
    found = ends_of(table, table.number_of(tree), limit)
    if found is None:
        raise TooMany(limit)
    return found


def least_split(lot):
    """Return the least tree that has two ends, None if there is none."""
    if ending(lot)[0] == "no":
        raise GoesOn()
    if all_meet(lot)[0] == "yes":
        return None
    split = [left for left in left_sides(lot) if len(ends(lot, left)) > 1]
    table = Table(lot.rules(), [])
    found = least_before(table)
    return ordered([found[table.number_of(left)] for left in split])[0]
