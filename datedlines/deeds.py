"""The deeds of a tree."""

from datedlines.done import exchanged
from datedlines.trees import made_tree, names_at


def offers(calendar, tree):
    """Return all deeds of the tree, ascending."""
    made_tree(calendar, tree)
    found = []
    for d in range(len(tree)):
        names = names_at(calendar, tree, d)
        for i, a in enumerate(names):
            found.extend([("change", d, a, b) for b in names[i + 1:]])
    return tuple(found)


def changing(calendar, tree):
    """Return those deeds of the tree that alter it, ascending."""
    return tuple([deed for deed in offers(calendar, tree) if exchanged(tree, deed) != tree])
