"""Woods as texts."""

from datedlines.checks import ask_leaves_many
from datedlines.errors import BadText
from datedlines.rowwords import number_of
from datedlines.shapes import made_wood, wood_size

DEEPEST = 11
LONGEST_NUMBER = 2


def wood_text(n, wood):
    """Return the text of a wood of n leaves."""
    made_wood(n, wood)
    return " ".join([_shape_text(shape) for shape in wood])


def _shape_text(shape):
    """Return the text of a shape."""
    if not isinstance(shape, tuple):
        return str(shape)
    return "(" + ",".join([_shape_text(part) for part in shape]) + ")"


def wood_of(n, text):
    """Return the wood of n leaves that has this text."""
    ask_leaves_many(n)
    wood = tuple([_shape_of_text(word) for word in text.split(" ")])
    if wood_size(wood) != n:
        raise BadText(0)
    return wood


def _shape_of_text(word):
    """Return the shape that has this text."""
    shape, behind = _shape_from(word, 0, 0)
    if behind != len(word):
        raise BadText(0)
    return shape


def _shape_from(word, start, deep):
    """Return the shape whose text begins at an index, within so many brackets, and the index behind it."""
    if word[start:start + 1] != "(":
        return _leaf_from(word, start)
    if deep == DEEPEST:
        raise BadText(0)
    parts = []
    at = start
    while len(parts) == 0 or word[at:at + 1] == ",":
        part, at = _shape_from(word, at + 1, deep + 1)
        parts.append(part)
    if word[at:at + 1] != ")":
        raise BadText(0)
    return tuple(parts), at + 1


def _leaf_from(word, start):
    """Return the leaf whose number word begins at an index, the longest that can be read, and the index behind it."""
    for length in range(LONGEST_NUMBER, 0, -1):
        leaf = number_of(word[start:start + length])
        if leaf is not None:
            return leaf, min(start + length, len(word))
    raise BadText(0)
