"""The trees of values: what is inside of them, and what they have in common.

All walks go over lists of their own instead of calling themselves, since a
chain of signs makes a tree that is deeper than calls should be.
"""

# Where the trees inside of a tree stand in it, for each form but a call.
INSIDE = {"number": (3, 3), "truth": (3, 3), "name": (3, 3), "field": (3, 4), "group": (3, 4), "not": (3, 4),
          "minus": (3, 4), "binary": (4, 6), "if": (3, 6), "let": (5, 7), "loop": (5, 8)}


def children(tree):
    """Return the list of the trees that are directly inside of a tree, in the order of their places."""
    if tree[0] == "call":
        return list(tree[4])
    first, behind = INSIDE[tree[0]]
    return list(tree[first:behind])


def nodes(tree):
    """Return the list of the tree and all trees inside of it, a tree before those inside of it."""
    found = []
    waiting = [tree]
    while waiting:
        node = waiting.pop()
        found.append(node)
        waiting.extend(children(node)[::-1])
    return found


def tree_at(tree, start, end):
    """Return the last tree in the order of nodes that has exactly this place, or None."""
    found = None
    for node in nodes(tree):
        if node[1] == start and node[2] == end:
            found = node
    return found


def shape(tree):
    """Return what a tree itself has besides places, names and the trees inside of it."""
    told = None
    if tree[0] in ("number", "truth", "binary"):
        told = tree[3]
    return (tree[0], told, len(children(tree)))


def same_shape(first, second):
    """Return True if two trees differ in nothing but starts, ends and names, otherwise False."""
    # The shapes in this order, with how many trees are inside of each, tell the whole tree.
    return [shape(node) for node in nodes(first)] == [shape(node) for node in nodes(second)]
