"""Whether all ways end, and how far they lead."""

from graftrules.errors import GoesOn, TooLong
from graftrules.tables import Table, WITHIN, stretches_within, way_of
from graftrules.trees import different, is_number, parts, path_to, places
from graftrules.ways import MOST_TOLD_STEPS

# Stands in the place of the number of a part as the goal of a way that may lead to any tree.
ANYWHERE = -1


def links_of(table):
    """List for each rule the dict of the rules it leads to, each with a place in its right side that shows it."""
    links = []
    for _, right in table.pairs:
        found = {}
        tree = table.trees[right]
        for place, part in places(tree):
            row = table.numbers[table.number_of(part)]
            for number, (left, _) in enumerate(table.pairs):
                if left in row and number not in found:
                    found[number] = place
        links.append(found)
    return links


def order_of(links):
    """List numbers of rules, each behind all that lead to it; those to which rings lead are left out."""
    order = []
    waiting = list(range(len(links)))
    free = waiting
    while free:
        free = [number for number in waiting if not any([number in links[other] for other in waiting])]
        order.extend(free)
        waiting = [number for number in waiting if number not in free]
    return order


def ring_of(links, order):
    """Return a ring of rules that are left out of their order."""
    left_out = [number for number in range(len(links)) if number not in order]
    # One of those that are left out leads to each of them, so this goes back until it comes to a rule again.
    trail = [left_out[0]]
    while trail[-1] not in trail[:-1]:
        trail.append([number for number in left_out if trail[-1] in links[number]][0])
    # The trail goes against the ring, so it is read from its end, as far back as where that rule stood before.
    ring = trail[:trail.index(trail[-1]):-1]
    return [(number, links[number][following]) for number, following in zip(ring, ring[1:] + ring[:1])]


def ending(lot):
    """Return ("yes", an order) or ("no", a ring)."""
    links = links_of(Table(lot.rules(), []))
    order = order_of(links)
    if len(order) < len(links):
        return "no", ring_of(links, order)
    return "yes", order


def is_order(lot, value):
    """Tell whether a value, which may be any value, is an order of a lot."""
    many = len(lot)
    if not isinstance(value, list) or len(value) != many:
        return False
    if not all([is_number(number, many) for number in value]) or len(different(value)) < many:
        return False
    links = links_of(Table(lot.rules(), []))
    for at, number in enumerate(value):
        if any([other in links[number] for other in value[:at + 1]]):
            return False
    return True


def told_part(lot, value):
    """Return the part that a tuple (number, place) tells of a right side; None if the value, any value, tells none."""
    if not isinstance(value, tuple) or len(value) != 2 or not is_number(value[0], len(lot)):
        return None
    path = path_to(lot.rules()[value[0]][1], value[1])
    return path[-1] if path else None


def is_ring(lot, value):
    """Tell whether a value, which may be any value, is a ring of a lot."""
    if not isinstance(value, list) or not value:
        return False
    told = [told_part(lot, thing) for thing in value]
    if None in told:
        return False
    table = Table(lot.rules(), [])
    for part, following in zip(told, value[1:] + value[:1]):
        left, _ = table.pairs[following[0]]
        if left not in table.numbers[table.number_of(part)]:
            return False
    return True


def bottom_up(table):
    """List the parts, each behind its children and behind the right sides of all rules whose left sides it becomes."""
    links = links_of(table)
    order = order_of(links)
    if len(order) < len(links):
        raise GoesOn()
    # What a part of a right side leads to stands behind its rule in the order, so the last rule comes first here.
    rights = [table.trees[table.pairs[number][1]] for number in reversed(order)]
    firsts = [table.number_of(part) for right in rights for part in parts(right)]
    return different(firsts + list(range(len(table.trees))))


def greatest(lot, tree):
    """Return (nodes, levels), the greatest numbers of nodes and of levels of the trees that a tree becomes."""
    table = Table(lot.rules(), [tree])
    nodes = {}
    levels = {}
    for part in bottom_up(table):
        children = table.children[part]
        behind = table.rights_behind(part)
        grown = 1 + sum([nodes[child] for child in children])
        nodes[part] = max([grown] + [nodes[right] for right in behind])
        raised = 1 + max([levels[child] for child in children], default=0)
        levels[part] = max([raised] + [levels[right] for right in behind])
    start = table.number_of(tree)
    return nodes[start], levels[start]


class LongWays:
    """The greatest numbers of steps between the parts of a table, and from each of them to ANYWHERE.

    numbers[u][v] is this number, choices[u][v] tells how such a way begins: by steps within the children and then
    the rule of this number at the top, or WITHIN if it has no step at the top.
    """

    def __init__(self, table):
        self._table = table
        self.numbers = [{} for _ in table.trees]
        self.choices = [{} for _ in table.trees]
        for part in bottom_up(table):
            self._work_out(part)

    def _work_out(self, start):
        """Work out the numbers for all ways from a part; those from what it leads to are known."""
        firsts = [self._within(start, left) for left, _ in self._table.pairs]
        for goal in list(self._table.numbers[start]) + [ANYWHERE]:
            most, choice = self._within(start, goal), WITHIN
            for rule, (_, right) in enumerate(self._table.pairs):
                if firsts[rule] is not None and goal in self.numbers[right]:
                    number = firsts[rule] + 1 + self.numbers[right][goal]
                    if most is None or number > most:
                        most, choice = number, rule
            self.numbers[start][goal] = most
            self.choices[start][goal] = choice

    def _goals(self, start, goal):
        """List the pairs of each child of a part and the goal for it if no step is done at the top."""
        if goal == ANYWHERE:
            return [(child, ANYWHERE) for child in self._table.children[start]]
        return self._table.child_pairs(start, goal)

    def _within(self, start, goal):
        """Return the greatest number of steps of ways without a step at the top, None if there are none."""
        if goal != ANYWHERE and not self._table.same_sign(start, goal):
            return None
        pairs = self._goals(start, goal)
        if not all([end in self.numbers[begin] for begin, end in pairs]):
            return None
        return sum([self.numbers[begin][end] for begin, end in pairs])

    def stretches(self, place, start, goal):
        """List what a longest way from start to goal, at a place, consists of: steps and shorter stretches."""
        choice = self.choices[start][goal]
        if choice == WITHIN:
            return stretches_within(place, self._goals(start, goal))
        left, right = self._table.pairs[choice]
        within = stretches_within(place, self._table.child_pairs(start, left))
        return within + [(place, choice), (place, right, goal)]


def most_steps(lot, tree):
    """Return the greatest number of steps of a way from a tree."""
    table = Table(lot.rules(), [tree])
    return LongWays(table).numbers[table.number_of(tree)][ANYWHERE]


def longest(lot, tree):
    """Return a way from a tree with the greatest number of steps."""
    table = Table(lot.rules(), [tree])
    ways = LongWays(table)
    start = table.number_of(tree)
    number = ways.numbers[start][ANYWHERE]
    if number > MOST_TOLD_STEPS:
        raise TooLong(number)
    return way_of(ways, start, ANYWHERE)
