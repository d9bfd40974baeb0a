"""The written forms of trees and lots."""

from graftrules.errors import BadLot, InvalidText
from graftrules.lots import Lot
from graftrules.trees import MOST_CHILDREN, MOST_LETTERS

ARROW = " -> "


def write_tree(tree):
    """Return the written form of a tree."""
    written = []
    # Trees may have more levels than calls can be nested, so what is still to be written waits here, the next one last.
    waiting = [tree]
    while waiting:
        thing = waiting.pop()
        if isinstance(thing, str):
            written.append(thing)
        else:
            written.append(thing[0])
            if len(thing) > 1:
                waiting.append(")")
                for child in thing[:1:-1]:
                    waiting.extend([child, ","])
                waiting.extend([thing[1], "("])
    return "".join(written)


def write_lot(lot):
    """Return the written form of a lot."""
    return "\n".join([write_tree(left) + ARROW + write_tree(right) for left, right in lot.rules()])


class TreeReader:
    """Reads the written form of a tree, sign by sign."""

    def __init__(self):
        # For each bracket that is open, the name ahead of it and the children that are read.
        self._begun = []
        # The letters of the name at the end, and the tree at the end if a bracket closed it.
        self._name = ""
        self._closed = None

    def _last(self):
        """Return the tree at the end, None if there is none."""
        if self._closed is None and self._name != "":
            return (self._name,)
        return self._closed

    def reads(self, sign):
        """Read a sign; return False if the written form of no tree goes on with it."""
        if "a" <= sign <= "z":
            return self._reads_letter(sign)
        if self._last() is None:
            return False
        if sign == "(":
            return self._reads_opening()
        if sign == ",":
            return self._reads_comma()
        return sign == ")" and self._reads_closing()

    def _reads_letter(self, sign):
        """Read a letter."""
        if self._closed is not None or len(self._name) == MOST_LETTERS:
            return False
        self._name = self._name + sign
        return True

    def _reads_opening(self):
        """Read an opening bracket behind a tree."""
        if self._closed is not None:
            return False
        self._begun.append([self._name])
        self._name = ""
        return True

    def _reads_comma(self):
        """Read a comma behind a tree."""
        # A child more is to follow, so the name and the children that are read are at most four yet.
        if not self._begun or len(self._begun[-1]) == MOST_CHILDREN:
            return False
        self._begun[-1].append(self._last())
        self._name = ""
        self._closed = None
        return True

    def _reads_closing(self):
        """Read a closing bracket behind a tree."""
        if not self._begun:
            return False
        self._closed = tuple(self._begun.pop() + [self._last()])
        self._name = ""
        return True

    def whole(self):
        """Return the tree whose written form is all that was read, None if it is that of none."""
        return None if self._begun else self._last()


def read_tree(text):
    """Return the tree whose written form is a text."""
    reader = TreeReader()
    for at, sign in enumerate(text):
        if not reader.reads(sign):
            raise InvalidText(at)
    tree = reader.whole()
    if tree is None:
        raise InvalidText(len(text))
    return tree


def rule_of(line):
    """Return the pair of trees whose written forms a line holds, with an arrow between them; None if it holds none."""
    sides = line.split(ARROW)
    if len(sides) != 2:
        return None
    try:
        return read_tree(sides[0]), read_tree(sides[1])
    except InvalidText:
        return None


def read_lot(text):
    """Return the lot whose written form is a text."""
    lot = Lot([])
    lines = text.split("\n") if text != "" else []
    for number, line in enumerate(lines):
        # Nine rules at once would not tell which line is wrong. What holds no two trees is None, which is no rule.
        try:
            lot = Lot(lot.rules() + [rule_of(line)])
        except BadLot:
            raise InvalidText(number) from None
    return lot
