"""Trees, their parts and their places."""

from graftrules.errors import NoPlace

MOST_LETTERS = 8
MOST_CHILDREN = 4


def is_number(value, many):
    """Tell whether a value, which may be any value, is an integer from 0 on that is less than many."""
    return isinstance(value, int) and not isinstance(value, bool) and 0 <= value < many


def is_name(value):
    """Tell whether a value, which may be any value, is a name."""
    if not isinstance(value, str) or not 1 <= len(value) <= MOST_LETTERS:
        return False
    return all(["a" <= letter <= "z" for letter in value])


def is_node(value):
    """Tell whether a value begins as a tree does; what stands in the places of its children is left open."""
    if not isinstance(value, tuple) or not 1 <= len(value) <= MOST_CHILDREN + 1:
        return False
    return is_name(value[0])


def different(values):
    """List the different ones of some values, each where it stands first."""
    found = []
    for value in values:
        if value not in found:
            found.append(value)
    return found


def is_tree(value):
    """Tell whether a value, which may be any value, is a tree."""
    level = [value]
    while level:
        if not all([is_node(part) for part in level]):
            return False
        # A value may hold one part in very many places, so like parts of a level are looked into only once.
        level = [child for part in different(level) for child in part[1:]]
    return True


def is_low_tree(value, levels):
    """Tell whether a value, which may be any value, is a tree of at most so many levels."""
    if levels < 1 or not is_node(value):
        return False
    return all([is_low_tree(child, levels - 1) for child in value[1:]])


def every_part(tree):
    """List the parts at all places of a tree, each as often as it stands there, in no special order."""
    found = []
    waiting = [tree]
    while waiting:
        part = waiting.pop()
        found.append(part)
        waiting.extend(part[1:])
    return found


def size(tree):
    """Return the number of nodes of a tree."""
    return len(every_part(tree))


def rank(tree):
    """Return what trees are put in order by."""
    return size(tree), tree


def ordered(trees):
    """Return the list of the different trees in a list, in order."""
    found = []
    for tree in sorted(trees, key=rank):
        if not found or found[-1] != tree:
            found.append(tree)
    return found


def parts_of(trees):
    """Return the list of the different parts of all trees in a list, in order."""
    return ordered([part for tree in trees for part in every_part(tree)])


def parts(tree):
    """Return the list of the different parts of a tree, in order."""
    return parts_of([tree])


def places(tree):
    """Yield a tuple (place, part) for each place of a tree, in order of places."""
    waiting = [((), tree)]
    while waiting:
        place, part = waiting.pop()
        yield place, part
        for child in reversed(range(len(part) - 1)):
            waiting.append((place + (child,), part[child + 1]))


def path_to(tree, place):
    """List the parts from a tree down to a place; the list is empty if the place, any value, is none of the tree."""
    if not isinstance(place, tuple):
        return []
    path = [tree]
    for child in place:
        above = path[-1]
        if not is_number(child, len(above) - 1):
            return []
        path.append(above[child + 1])
    return path


def part_at(tree, place):
    """Return the part at a place of a tree."""
    path = path_to(tree, place)
    if not path:
        raise NoPlace(place)
    return path[-1]


def put(tree, place, part):
    """Return a tree with another tree put at a place of it."""
    path = path_to(tree, place)
    if not path:
        raise NoPlace(place)
    grown = part
    for depth in reversed(range(len(place))):
        above = path[depth]
        at = place[depth] + 1
        grown = above[:at] + (grown,) + above[at + 1:]
    return grown
