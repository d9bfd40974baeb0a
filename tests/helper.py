"""What several tests use: values of all kinds, and trees to try things on."""

from itertools import product


def nested(value, levels, wrap):
    """Return a value within so many levels of what wrap puts around it."""
    for _ in range(levels):
        value = wrap(value)
    return value


def any_values():
    """List new values of all the kinds that a parameter may get which accepts any value; none is a tree."""
    deep = [
        nested(0, 50, lambda value: [value]),
        nested((), 50, lambda value: (value,)),
        nested(None, 50, lambda value: {"a": value}),
        nested((), 50, lambda value: ("f", value)),
        nested(0, 50, lambda value: ("f", ("a",), value)),
        nested("a", 25, lambda value: [{"k": (value, 1)}]),
    ]
    flat = [
        0, 1, 2, -1, -2, 7, 8, 10 ** 30, -10 ** 30, True, False, None,
        "", "a", "ab", "f(a)", "a -> b", "\u00e9", "\n",
        (), ("",), ("A",), (0,), (True,), (None,), ((),), ("a", "b"), ("a", 0), ("a", None), ("a", ()), (0, 0), (-1,),
        [], [0], ["a"], [("a",)], [("a",), ("b",)], [[]], [None],
        {}, {"a": 1}, {0: ("a",)}, {("a",): ("b",)}, {0: [], 1: {}},
    ]
    return flat + deep


def trees_up_to(most, names):
    """List all trees of at most so many nodes with these names, each once."""
    by_size = {}
    for nodes in range(1, most + 1):
        found = []
        for name in names:
            for sizes in sizes_of_children(nodes - 1):
                for children in product(*[by_size[child] for child in sizes]):
                    found.append((name,) + children)
        by_size[nodes] = found
    return [tree for nodes in by_size for tree in by_size[nodes]]


def sizes_of_children(nodes):
    """List the rows of at most four sizes that are so many nodes together."""
    rows = []
    for many in range(5):
        rows.extend([row for row in product(range(1, nodes + 1), repeat=many) if sum(row) == nodes])
    return rows
