"""Trees that the tests go over: told by hand, very deep, or with one thing changed."""

# A grammar of which all the trees told by hand are.
RULES = [
    ("a", "b", "c"), ("a", "a", "a"), ("a", "x"), ("b", "x"), ("b", "y"), ("c", "a", "b"), ("c", "z"), ("b", " "),
    ("a", "a"),
]

# For each: the tree, the text, the stretch, the mended text, the cost, the deeds.
LEAVES = [
    (("a", "x", 0, 0, None), "", (0, 0), "x", 1, [("put", 0, "x")]),
    (("a", "x", 0, 0, None), "x", (0, 0), "x", 1, [("put", 0, "x")]),
    (("a", "x", 1, 1, None), "yyy", (1, 1), "x", 1, [("put", 1, "x")]),
    (("a", "x", 3, 3, None), "yyy", (3, 3), "x", 1, [("put", 3, "x")]),
    (("a", "x", 0, 1, 0), "x", (0, 1), "x", 0, [("keep", 0)]),
    (("b", " ", 0, 1, 0), " ", (0, 1), " ", 0, [("keep", 0)]),
    (("a", "a", 0, 1, 0), "a", (0, 1), "a", 0, [("keep", 0)]),
    (("a", "a", 0, 1, 0), "A", (0, 1), "a", 1, [("change", 0, "a")]),
    (("b", " ", 0, 1, 0), "y", (0, 1), " ", 1, [("change", 0, " ")]),
    (("b", "y", 2, 3, 2), "xyyx", (2, 3), "y", 0, [("keep", 2)]),
    (("b", "y", 3, 4, 3), "xyyx", (3, 4), "y", 1, [("change", 3, "y")]),
    (("a", "x", 0, 2, 0), "xx", (0, 2), "x", 1, [("keep", 0), ("cut", 1)]),
    (("a", "x", 0, 2, 1), "xx", (0, 2), "x", 1, [("cut", 0), ("keep", 1)]),
    (("a", "x", 0, 3, 0), "yxz", (0, 3), "x", 3, [("change", 0, "x"), ("cut", 1), ("cut", 2)]),
    (("a", "x", 0, 3, 1), "yxz", (0, 3), "x", 2, [("cut", 0), ("keep", 1), ("cut", 2)]),
    (("a", "x", 0, 3, 2), "yxz", (0, 3), "x", 3, [("cut", 0), ("cut", 1), ("change", 2, "x")]),
    (("a", "x", 1, 4, 1), "yxzxx", (1, 4), "x", 2, [("keep", 1), ("cut", 2), ("cut", 3)]),
    (("a", "x", 1, 4, 2), "yxzxx", (1, 4), "x", 3, [("cut", 1), ("change", 2, "x"), ("cut", 3)]),
    (("a", "x", 1, 4, 3), "yxzxx", (1, 4), "x", 2, [("cut", 1), ("cut", 2), ("keep", 3)]),
]

FORKS = [
    # Split at the begin, at the end, inside, and over no place.
    (("a", ("b", "x", 0, 0, None), ("c", "z", 0, 1, 0)), "z", (0, 1), "xz", 1, [("put", 0, "x"), ("keep", 0)]),
    (("a", ("b", "x", 0, 1, 0), ("c", "z", 1, 1, None)), "z", (0, 1), "xz", 2, [("change", 0, "x"), ("put", 1, "z")]),
    (("a", ("b", "x", 0, 1, 0), ("c", "z", 1, 2, 1)), "xz", (0, 2), "xz", 0, [("keep", 0), ("keep", 1)]),
    (("a", ("b", "y", 0, 2, 1), ("c", "z", 2, 3, 2)), "xyy", (0, 3), "yz", 2,
     [("cut", 0), ("keep", 1), ("change", 2, "z")]),
    (("a", ("b", "x", 0, 0, None), ("c", "z", 0, 0, None)), "", (0, 0), "xz", 2, [("put", 0, "x"), ("put", 0, "z")]),
    # Over a part of the text.
    (("a", ("b", "x", 2, 3, 2), ("c", "z", 3, 5, 4)), "zzxzzz", (2, 5), "xz", 1,
     [("keep", 2), ("cut", 3), ("keep", 4)]),
    (("a", ("a", "x", 1, 1, None), ("a", "x", 1, 1, None)), "zzz", (1, 1), "xx", 2, [("put", 1, "x"), ("put", 1, "x")]),
    # Forks within forks: on the left, on the right, on both sides.
    (("a", ("a", ("a", "x", 0, 1, 0), ("a", "x", 1, 1, None)), ("a", "a", 1, 2, 1)), "xa", (0, 2), "xxa", 1,
     [("keep", 0), ("put", 1, "x"), ("keep", 1)]),
    (("a", ("b", " ", 0, 1, 0), ("c", ("a", "x", 1, 1, None), ("b", "y", 1, 3, 1))), "  y", (0, 3), " xy", 3,
     [("keep", 0), ("put", 1, "x"), ("change", 1, "y"), ("cut", 2)]),
    (("a", ("a", ("b", "x", 0, 2, 1), ("c", "z", 2, 3, 2)),
      ("a", ("b", "y", 3, 3, None), ("c", ("a", "a", 3, 4, 3), ("b", "x", 4, 4, None)))), "xxza", (0, 4), "xzyax", 3,
     [("cut", 0), ("keep", 1), ("keep", 2), ("put", 3, "y"), ("keep", 3), ("put", 4, "x")]),
    (("c", ("a", ("a", "x", 1, 2, 1), ("a", "x", 2, 4, 3)), ("b", "y", 4, 5, 4)), "zxyxyz", (1, 5), "xxy", 1,
     [("keep", 1), ("cut", 2), ("keep", 3), ("keep", 4)]),
]


def leaning_left(leaves, name):
    """One tree of the leaves in their order, each fork being the first part of the one above it."""
    tree = leaves[0]
    for leaf in leaves[1:]:
        tree = (name, tree, leaf)
    return tree


def leaning_right(leaves, name):
    """As leaning_left, each fork being the second part."""
    tree = leaves[-1]
    for leaf in leaves[-2::-1]:
        tree = (name, leaf, tree)
    return tree


def leaning_both_ways(leaves, name):
    """As leaning_left, the forks being first and second parts by turns."""
    middle = len(leaves) // 2
    tree = leaves[middle]
    for far in range(1, middle + 1):
        tree = (name, leaves[middle - far], tree)
        if middle + far < len(leaves):
            tree = (name, tree, leaves[middle + far])
    return tree


def paths(tree):
    """The ways to the tree itself and to each of its parts, at any depth: tuples of the parts' numbers."""
    found = [()]
    if isinstance(tree, tuple):
        for at, part in enumerate(tree):
            found.extend((at, *path) for path in paths(part))
    return found


def part_at(tree, path):
    """The part that a way leads to."""
    for at in path:
        tree = tree[at]
    return tree


def with_part(tree, path, thing):
    """The tree with the thing where the way leads to."""
    if path == ():
        return thing
    at = path[0]
    return tree[:at] + (with_part(tree[at], path[1:], thing),) + tree[at + 1:]
