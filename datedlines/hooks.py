"""The hooks of a wood, and how many plain trees have it."""

from math import factorial

from datedlines.errors import NotWhole
from datedlines.shapes import ask_wood, wood_size


def hooks(wood):
    """Return the product, over all joints, of how many joints lie at or beneath the joint."""
    ask_wood(wood)
    product = 1
    for shape in wood:
        product = product * _hooks_of(shape)[1]
    return product


def _hooks_of(shape):
    """Return the number of joints of a shape, and the product of their hooks."""
    if not isinstance(shape, tuple):
        return (0, 1)
    many = 1
    product = 1
    for part in shape:
        beneath, below = _hooks_of(part)
        many += beneath
        product = product * below
    return (many, product * many)


def plain_histories(wood):
    """Return the number of plain trees that have this wood, of one shape whose joints have two parts each."""
    ask_wood(wood)
    if len(wood) > 1 or not _is_by_twos(wood[0]):
        raise NotWhole(0)
    return factorial(wood_size(wood) - 1) // hooks(wood)


def _is_by_twos(shape):
    """Tell whether all joints of a shape have two parts."""
    if not isinstance(shape, tuple):
        return True
    return len(shape) == 2 and all([_is_by_twos(part) for part in shape])
