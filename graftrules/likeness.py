"""Whether two lots lead the same, and which rules can be spared."""

from graftrules.lots import Lot
from graftrules.tables import Table
from graftrules.trees import is_number
from graftrules.ways import becomes, is_fence, least_steps


def numbers_by(lot, rules):
    """List the least numbers of steps by a lot from the left to the right side of each rule, None where is no way."""
    return [least_steps(lot, left, right) for left, right in rules]


def fence_by(lot, rule):
    """Return a fence by a lot for the sides of a rule, of which the left one does not become the right one."""
    return becomes(lot, rule[0], rule[1])[1]


def leads_same(one, other):
    """Return ("yes", the numbers of steps for the rules of both lots) or ("no", (which lot, number, fence))."""
    told = []
    for which, lot, by in ((0, one, other), (1, other, one)):
        numbers = numbers_by(by, lot.rules())
        if None in numbers:
            number = numbers.index(None)
            return "no", (which, number, fence_by(by, lot.rules()[number]))
        told.append(numbers)
    return "yes", (told[0], told[1])


def is_unlike(one, other, value):
    """Tell whether a value, which may be any value, is a tuple (which lot, number of a rule, fence by the other)."""
    if not isinstance(value, tuple) or len(value) != 3:
        return False
    which, number, fence = value
    if not is_number(which, 2):
        return False
    lot, by = (one, other) if which == 0 else (other, one)
    if not is_number(number, len(lot)):
        return False
    left, right = lot.rules()[number]
    return is_fence(by, left, right, fence)


def spared(lot, number):
    """Return ("yes", least number of steps by the other rules) or ("no", a fence by them) for a rule."""
    others = lot.without(number)
    rule = lot.rules()[number]
    least = least_steps(others, rule[0], rule[1])
    if least is None:
        return "no", fence_by(others, rule)
    return "yes", least


def trimmed(lot):
    """Return the lot that is left if each rule is taken out that can be spared, from the last one to the first one."""
    kept = lot.rules()
    for number in reversed(range(len(kept))):
        left, right = kept[number]
        others = kept[:number] + kept[number + 1:]
        if Table(others, [left, right]).least(left, right) is not None:
            kept = others
    return Lot(kept)
