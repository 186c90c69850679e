"""Shapes and woods: trees without their days."""

from datedlines.calendars import newborn
from datedlines.checks import MOST_LEAVES, ask_leaves_many, is_from_to
from datedlines.errors import BadShape
from datedlines.trees import made_tree


def shape_of(calendar, tree):
    """Return the wood of the tree: a shape for each line at the end."""
    made_tree(calendar, tree)
    shapes = {x: x for x in newborn(calendar, 0)}
    for d, row in enumerate(tree):
        for group in row:
            joint = tuple([shapes.pop(name) for name in group])
            shapes[group[0]] = joint
        for x in newborn(calendar, d + 1):
            shapes[x] = x
    return tuple([shapes[name] for name in sorted(shapes)])


def made_wood(n, thing):
    """Return the thing if it is a wood of n leaves."""
    ask_leaves_many(n)
    if wood_size(thing) != n:
        raise BadShape(0)
    return thing


def ask_wood(wood):
    """Raise BadShape unless the wood is one, of however many leaves."""
    if wood_size(wood) is None:
        raise BadShape(0)


def wood_size(thing):
    """Return the number of leaves of a wood, None if the thing is no wood."""
    found = []
    if not isinstance(thing, tuple) or len(thing) == 0 or not _are_shapes(thing, found):
        return None
    if sorted(found) != list(range(len(found))):
        return None
    return len(found)


def _are_shapes(things, found):
    """Tell whether the things are shapes, ascending by their least leaves; add their leaves to those found.

    It ends at the first bad thing or leaf that comes again, so it does not go far into what is no wood.
    """
    before = -1
    for thing in things:
        at = len(found)
        if isinstance(thing, tuple):
            if len(thing) < 2 or not _are_shapes(thing, found):
                return False
        elif is_from_to(thing, 0, MOST_LEAVES - 1) and thing not in found:
            found.append(thing)
        else:
            return False
        # The first leaf of a shape is its least one, as its parts ascend, too.
        if found[at] < before:
            return False
        before = found[at]
    return True


def least_leaf(shape):
    """Return the least leaf of a shape."""
    least = shape
    while isinstance(least, tuple):
        least = least[0]
    return least
