"""Lots of rules, and the steps that they allow."""

from graftrules.errors import BadLot, NoRule, NoStep
from graftrules.trees import is_low_tree, is_number, parts_of, path_to, places, put, size

MOST_RULES = 8
MOST_TOLD_PARTS = 24
MOST_NODES_OF_SIDE = 6
MOST_LEVELS_OF_SIDE = 4


def is_side(value):
    """Tell whether a value, which may be any value, is a tree that may be a side of a rule."""
    # The levels go first: they bound how much of the value is looked at.
    return is_low_tree(value, MOST_LEVELS_OF_SIDE) and size(value) <= MOST_NODES_OF_SIDE


def is_rule(value):
    """Tell whether a value, which may be any value, is a rule."""
    if not isinstance(value, tuple) or len(value) != 2:
        return False
    left, right = value
    return is_side(left) and is_side(right) and left != right


def told_parts(rules):
    """Return the list of the different parts of all sides of some rules, in order."""
    return parts_of([side for rule in rules for side in rule])


class Lot:
    """A lot: a list of no to eight different rules."""

    def __init__(self, rules):
        if not isinstance(rules, list) or len(rules) > MOST_RULES:
            raise BadLot(0)
        for number, rule in enumerate(rules):
            if not is_rule(rule) or rule in rules[:number]:
                raise BadLot(number)
            if len(told_parts(rules[:number + 1])) > MOST_TOLD_PARTS:
                raise BadLot(number)
        self._rules = list(rules)
        self._parts = told_parts(rules)

    def rules(self):
        """Return the list of the rules."""
        return list(self._rules)

    def parts(self):
        """Return the list of the told parts, in order."""
        return list(self._parts)

    def __len__(self):
        return len(self._rules)

    def __contains__(self, value):
        return value in self._rules

    def __eq__(self, other):
        return isinstance(other, Lot) and self._rules == other._rules

    def __add__(self, other):
        if not isinstance(other, Lot):
            return NotImplemented
        return Lot(self._rules + [rule for rule in other._rules if rule not in self._rules])

    def turned(self):
        """Return the lot with the sides of each rule exchanged."""
        return Lot([(right, left) for left, right in self._rules])

    def without(self, number):
        """Return the lot without the rule of a number, which may be any value."""
        if not is_number(number, len(self._rules)):
            raise NoRule(number)
        return Lot(self._rules[:number] + self._rules[number + 1:])


def steps(lot, tree):
    """Yield a tuple (place, number, tree behind it) for each step, in order of places, and of numbers."""
    rules = lot.rules()
    for place, part in places(tree):
        for number, (left, right) in enumerate(rules):
            if part == left:
                yield place, number, put(tree, place, right)


def tree_behind(lot, tree, step):
    """Return the tree behind a step, which may be any value; None if it is no step that can be done."""
    if not isinstance(step, tuple) or len(step) != 2:
        return None
    place, number = step
    if not is_number(number, len(lot)):
        return None
    left, right = lot.rules()[number]
    path = path_to(tree, place)
    if not path or path[-1] != left:
        return None
    return put(tree, place, right)


def after(lot, tree, way):
    """Return the tree behind a way, which may be any value."""
    if not isinstance(way, list):
        raise NoStep(0)
    now = tree
    for at, step in enumerate(way):
        now = tree_behind(lot, now, step)
        if now is None:
            raise NoStep(at)
    return now
