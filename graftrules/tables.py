"""Which parts of some rules and trees become which, and by how few steps."""

from heapq import heappop, heappush

from graftrules.trees import parts_of, size

# Stands in the place of a rule's number where a way has no step at the top of the tree, only steps within its children.
WITHIN = -1


class PartList:
    """The parts of some trees and of the sides of some rules, in order; trees, children and rules by their numbers.

    Trees may be nested too deep to be keys of dicts, so all that is worked out is kept under these numbers.
    """

    def __init__(self, rules, trees):
        self.trees = parts_of(trees + [side for rule in rules for side in rule])
        self.children = [[self.number_of(child) for child in tree[1:]] for tree in self.trees]
        self.pairs = [(self.number_of(left), self.number_of(right)) for left, right in rules]

    def number_of(self, value):
        """Return the number of a part; None if the value, which may be any value, is none of the parts."""
        if value not in self.trees:
            return None
        return self.trees.index(value)

    def child_pairs(self, one, other):
        """List the pairs of children that stand at the same places of two parts."""
        return list(zip(self.children[one], self.children[other]))

    def by_sign(self):
        """Return the dict of the lists of all parts with the same sign."""
        found = {}
        for number, tree in enumerate(self.trees):
            found.setdefault((tree[0], len(tree) - 1), []).append(number)
        return found

    def same_sign(self, one, other):
        """Tell whether two parts have the same sign."""
        return self.trees[one][0] == self.trees[other][0] and len(self.trees[one]) == len(self.trees[other])

    def alike(self):
        """List the pairs of unlike parts that have the same sign; without children they would not be unlike."""
        rows = list(self.by_sign().values())
        return [(one, other) for numbers in rows for one in numbers for other in numbers if one != other]


class SumsAbove:
    """Adds up the numbers of pairs of children, for each pair of unlike parts that have the same sign."""

    def __init__(self, part_list):
        self._above = {}
        self._missing = {}
        self._sums = {}
        for above in part_list.alike():
            below = part_list.child_pairs(above[0], above[1])
            self._missing[above] = len(below)
            self._sums[above] = 0
            for pair in below:
                self._above.setdefault(pair, []).append(above)

    def complete(self, one, other, number):
        """Add the number of a pair of children, once; list (sum, u, v) for the pairs of which it was the last one."""
        found = []
        for above in self._above.get((one, other), []):
            self._missing[above] -= 1
            self._sums[above] += number
            if self._missing[above] == 0:
                found.append((self._sums[above], above[0], above[1]))
        return found


class Table(PartList):
    """All pairs of such parts of which the first becomes the second one, with the least numbers of steps.

    numbers[u][v] is the least number of steps from u to v, and choices[u][v] tells how a way with so many goes on:
    the number of a rule that is used at the top of the tree, or WITHIN. What u does not become has no entry.
    sources[v][u] is numbers[u][v].
    """

    def __init__(self, rules, trees):
        super().__init__(rules, trees)
        self.numbers = [{} for _ in self.trees]
        self.choices = [{} for _ in self.trees]
        self.sources = [{} for _ in self.trees]
        self._sums_above = SumsAbove(self)
        self._heap = [(0, part, part, WITHIN) for part in range(len(self.trees))]
        # No sum is less than its summands, so the least number on the heap is always a least one for its pair.
        while self._heap:
            number, start, goal, choice = heappop(self._heap)
            if goal not in self.numbers[start]:
                self._settle(number, start, goal, choice)

    def _offer(self, number, start, goal, choice):
        """Put a number of steps on the heap, unless a lower one is settled for this pair."""
        if goal not in self.numbers[start]:
            heappush(self._heap, (number, start, goal, choice))

    def _settle(self, number, start, goal, choice):
        """Keep the least number of steps of a pair, and offer what follows from it."""
        self.numbers[start][goal] = number
        self.choices[start][goal] = choice
        self.sources[goal][start] = number
        for total, one, other in self._sums_above.complete(start, goal, number):
            self._offer(total, one, other, WITHIN)
        for rule, (left, right) in enumerate(self.pairs):
            if goal == left:
                for further, more in self.numbers[right].items():
                    self._offer(number + 1 + more, start, further, rule)
            if start == right:
                for before, fewer in self.sources[left].items():
                    self._offer(fewer + 1 + number, before, goal, rule)

    def least(self, tree, other):
        """Return the least number of steps from one of the trees to another one, None if there is no way."""
        return self.numbers[self.number_of(tree)].get(self.number_of(other))

    def rights_behind(self, part):
        """List the right sides of the rules whose left sides a part becomes."""
        return [right for left, right in self.pairs if left in self.numbers[part]]

    def told_pairs(self):
        """List the pairs of numbers of the table, in order."""
        return [(start, goal) for start, row in enumerate(self.numbers) for goal in sorted(row)]

    def stretches(self, place, start, goal):
        """List what a least way from start to goal, at a place, consists of: steps and shorter stretches."""
        choice = self.choices[start][goal]
        if choice == WITHIN:
            return stretches_within(place, self.child_pairs(start, goal))
        left, right = self.pairs[choice]
        return [(place, start, left), (place, choice), (place, right, goal)]


def stretches_within(place, pairs):
    """List the stretches for pairs of children of the tree at a place, and of what they are to become."""
    return [(place + (child,), start, goal) for child, (start, goal) in enumerate(pairs)]


def way_of(plan, start, goal):
    """Return the way from start to goal of which a plan tells the stretches, until only steps are left."""
    way = []
    waiting = [((), start, goal)]
    while waiting:
        told = waiting.pop()
        # A step is a tuple (place, number), a stretch a tuple (place, start, goal).
        if len(told) == 2:
            way.append(told)
        else:
            place, begin, end = told
            waiting.extend(plan.stretches(place, begin, end)[::-1])
    return way


def least_before(table):
    """Return for each part the least of all trees that become it."""
    found = {}
    while len(found) < len(table.trees):
        ready = []
        for part, children in enumerate(table.children):
            if part not in found and all([child in found for child in children]):
                tree = table.trees[part][:1] + tuple([found[child] for child in children])
                ready.append((size(tree), tree, part))
        # No tree that is still to be found is less than the least one of these, so all that its part becomes have it.
        _, least, part = min(ready)
        for goal in table.numbers[part]:
            found.setdefault(goal, least)
    return found
