"""By how few steps together any two parts come to meet."""

from heapq import heappop, heappush

from graftrules.tables import SumsAbove


class Meetings:
    """The meeting numbers of the parts of a table: numbers[u][v] is that of u and v.

    Each pair stands there in both orders, and what does not meet has no entry.
    """

    def __init__(self, table):
        self.numbers = [{} for _ in table.trees]
        self._table = table
        self._sums_above = SumsAbove(table)
        self._heap = [(0, part, part) for part in range(len(table.trees))]
        # No sum is less than its summands, so the least number on the heap is always a least one for its pair.
        while self._heap:
            number, one, other = heappop(self._heap)
            if other not in self.numbers[one]:
                self._settle(number, one, other)

    def _offer(self, number, one, other):
        """Put a number on the heap, unless a lower one is settled for this pair."""
        if other not in self.numbers[one]:
            heappush(self._heap, (number, one, other))

    def _settle(self, number, one, other):
        """Keep the meeting number of a pair, and offer what follows from it."""
        self.numbers[one][other] = number
        for total, first, second in self._sums_above.complete(one, other, number):
            self._offer(total, first, second)
        for left, right in self._table.pairs:
            for before, fewer in self._table.sources[left].items():
                if one == right:
                    self._offer(fewer + 1 + number, before, other)
                if other == right:
                    self._offer(fewer + 1 + number, one, before)

    def least(self, tree, other):
        """Return the meeting number of two of the trees, None if they do not meet."""
        return self.numbers[self._table.number_of(tree)].get(self._table.number_of(other))
