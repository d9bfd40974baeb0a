"""The readings of trees: which told parts they become."""

from heapq import heappop, heappush

from graftrules.errors import TooMany
from graftrules.tables import Table


class Reader:
    """Works out the readings of trees from those of their children; each is kept as the bits of an integer."""

    def __init__(self, lot):
        table = Table(lot.rules(), [])
        self.told = table.trees
        self._children = table.children
        self._rows = [sum([1 << goal for goal in row]) for row in table.numbers]
        self._by_sign = table.by_sign()

    def bits_above(self, name, below):
        """Return the reading of a tree with a name whose children have these readings."""
        found = 0
        for part in self._by_sign.get((name, len(below)), []):
            if all([(bits >> child) & 1 == 1 for bits, child in zip(below, self._children[part])]):
                # What becomes a part becomes all that the part becomes. Nothing else is missed: the first step at the
                # top is the use of a rule at its left side, which is such a part itself.
                found = found | self._rows[part]
        return found

    def holds(self, bits, part):
        """Tell whether a told part stands in a reading."""
        return (bits >> self.told.index(part)) & 1 == 1

    def bits_of(self, tree):
        """Return the reading of a tree."""
        return self.bits_above(tree[0], [self.bits_of(child) for child in tree[1:]])

    def listed(self, bits):
        """Return a reading as the ascending list of its told parts."""
        return [part for number, part in enumerate(self.told) if (bits >> number) & 1 == 1]


def reading(lot, tree):
    """Return the reading of a tree: the ascending list of the told parts that it becomes."""
    reader = Reader(lot)
    return reader.listed(reader.bits_of(tree))


def rows_with(last, many):
    """List the rows of so many numbers up to a last one in which the last one stands."""
    found = []
    for first in range(many):
        # The last number stands at this place first.
        rows = [()]
        for place in range(many):
            low = last if place == first else 0
            high = last if place < first else last + 1
            rows = [row + (number,) for row in rows for number in range(low, high)]
        found.extend(rows)
    return found


class Machine:
    """All readings of trees of some signs."""

    def __init__(self, lot, signs, *, limit=60):
        self._reader = Reader(lot)
        self._signs = list(signs)
        self._found = []
        self._trees = []
        self._nodes = []
        self._numbers = {}
        self._bits_after = {}
        self._counts = [{}]
        heap = []
        for name, many in self._signs:
            if many == 0:
                self._offer(heap, name, ())
        # The least tree with a reading has children that are least trees with theirs, and these come off the heap
        # before it: so the first tree with a reading that comes off is the least one.
        while heap:
            nodes, tree, bits = heappop(heap)
            if bits not in self._numbers:
                if len(self._found) == limit:
                    raise TooMany(limit)
                self._keep(nodes, tree, bits)
                self._offer_above(heap)

    def _keep(self, nodes, tree, bits):
        """Give the next number to a reading, whose least tree has so many nodes."""
        self._numbers[bits] = len(self._found)
        self._found.append(bits)
        self._trees.append(tree)
        self._nodes.append(nodes)

    def _offer_above(self, heap):
        """Put on the heap the trees that have the tree with the newest reading among their children."""
        for name, many in self._signs:
            for row in rows_with(len(self._found) - 1, many):
                self._offer(heap, name, row)

    def _offer(self, heap, name, row):
        """Put on the heap a tree whose children are the least trees with the readings of these numbers."""
        bits = self._reader.bits_above(name, [self._found[number] for number in row])
        self._bits_after[(name,) + row] = bits
        if bits not in self._numbers:
            nodes = 1 + sum([self._nodes[number] for number in row])
            tree = (name,) + tuple([self._trees[number] for number in row])
            heappush(heap, (nodes, tree, bits))

    def __len__(self):
        return len(self._found)

    def readings(self):
        """Return the list of the tuples (reading, least tree that has it), in order of these trees."""
        return [(self._reader.listed(bits), tree) for bits, tree in zip(self._found, self._trees)]

    def after(self, name, numbers):
        """Return the number of the reading of a tree with a name whose children have the readings of these numbers."""
        return self._numbers[self._bits_after[(name,) + tuple(numbers)]]

    def how_many(self, part, size):
        """Return how many trees of the signs and of a size become a told part."""
        while len(self._counts) <= size:
            self._counts.append(self._count(len(self._counts)))
        counts = self._counts[size]
        return sum([counts[number] for number in counts if self._reader.holds(self._found[number], part)])

    def _count(self, nodes):
        """Return how many trees of so many nodes have which reading; the numbers for fewer nodes are known."""
        counts = {}
        for name, many in self._signs:
            for row, ways in self._count_rows(many, nodes - 1).items():
                number = self.after(name, row)
                counts[number] = counts.get(number, 0) + ways
        return counts

    def _count_rows(self, many, nodes):
        """Return how many rows of so many trees, with so many nodes together, have which readings."""
        if many == 0:
            return {(): 1} if nodes == 0 else {}
        counts = {}
        for first in range(1, nodes + 1):
            for row, ways in self._count_rows(many - 1, nodes - first).items():
                for number, trees in self._counts[first].items():
                    longer = (number,) + row
                    counts[longer] = counts.get(longer, 0) + trees * ways
        return counts
