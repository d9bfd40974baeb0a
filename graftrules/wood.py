"""A tree with a lot, led on by deeds that can be undone."""

from graftrules.errors import NoStep, NothingDone, UnknownMark
from graftrules.lots import Lot, tree_behind
from graftrules.trees import is_number
from graftrules.ways import least_steps


class Wood:
    """A tree with a lot, and the deeds that led it on."""

    def __init__(self, lot, tree):
        self._lot = lot
        self._tree = tree
        # Tuples of a deed and of the lot and the tree as they were ahead of it.
        self._deeds = []
        # For each mark, how many deeds there were when it was set.
        self._marks = []

    @property
    def tree(self):
        """The tree now."""
        return self._tree

    def lot(self):
        """Return the lot now."""
        return self._lot

    def done(self):
        """Return the list of the deeds that were done and not undone."""
        return [told[0] for told in self._deeds]

    def _lead(self, deed, lot, tree):
        """Do a deed that leads to this lot and this tree."""
        self._deeds.append((deed, self._lot, self._tree))
        self._lot = lot
        self._tree = tree

    def go(self, place, number):
        """Do a step; its place and number may be any values."""
        tree = tree_behind(self._lot, self._tree, (place, number))
        if tree is None:
            raise NoStep(len(self._deeds))
        self._lead(("go", place, number), self._lot, tree)

    def admit(self, rule):
        """Add a rule, which may be any value, behind the others."""
        self._lead(("admit", rule), Lot(self._lot.rules() + [rule]), self._tree)

    def drop(self, number):
        """Drop the rule of a number, which may be any value."""
        self._lead(("drop", number), self._lot.without(number), self._tree)

    def undo(self):
        """Undo the last deed and return it."""
        if not self._deeds:
            raise NothingDone()
        deed, self._lot, self._tree = self._deeds.pop()
        self._marks = [many for many in self._marks if many <= len(self._deeds)]
        return deed

    def mark(self):
        """Set a mark and return its number."""
        self._marks.append(len(self._deeds))
        return len(self._marks) - 1

    def back(self, number):
        """Go back to the mark of a number, which may be any value; later marks end."""
        if not is_number(number, len(self._marks)):
            raise UnknownMark(number)
        self._marks = self._marks[:number + 1]
        while len(self._deeds) > self._marks[number]:
            self.undo()

    def left(self, goal):
        """Return the least number of steps from the tree now to a goal by the lot now, None if there is no way."""
        return least_steps(self._lot, self._tree, goal)

    def fork(self):
        """Return a new wood that stands as this one does, with its deeds and marks."""
        other = Wood(self._lot, self._tree)
        other._deeds = list(self._deeds)
        other._marks = list(self._marks)
        return other
