"""Trees with other names."""

from datedlines.calendars import renamed
from datedlines.trees import made_tree


def renamed_tree(calendar, tree, places):
    """Return the tree of renamed(calendar, places) in which each leaf p has become places[p]."""
    made_tree(calendar, tree)
    renamed(calendar, places)
    return rewritten(tree, {p: place for p, place in enumerate(places)})


def rewritten(rows, places):
    """Return the rows, of a tree from some day on, as they are written when each line p is places[p].

    The p are the lines alive ahead of the first of these rows, by their names, and the leaves that are born
    later. What places lacks stays as it is.
    """
    name_now = dict(places)
    found = []
    for row in rows:
        groups = []
        for group in row:
            names = sorted([name_now.get(name, name) for name in group])
            name_now[group[0]] = names[0]
            groups.append(tuple(names))
        found.append(tuple(sorted(groups)))
    return tuple(found)
