"""How many trees of a calendar have a given wood, and the first one of them.

The joints of the wood are numbered. What is told from day to day is which of them have been done: a number whose
bit i stands for joint i.
"""

from itertools import combinations

from datedlines.calendars import days_many, leaves_many
from datedlines.errors import BadShape
from datedlines.shapes import ask_wood, least_leaf, wood_size


def histories(calendar, wood):
    """Return the number of trees of the calendar that have this wood."""
    _ask_wood_of(calendar, wood)
    return _ways_on(calendar, _joints_of(calendar, wood), 0, 0, {})


def next_tree(calendar, wood):
    """Return the first of the trees of the calendar that have this wood, None if there is none."""
    _ask_wood_of(calendar, wood)
    joints = _joints_of(calendar, wood)
    known = {}
    if _ways_on(calendar, joints, 0, 0, known) == 0:
        return None
    tree = []
    done = 0
    for d in range(days_many(calendar)):
        row, done = min([(_row_of(joints, chosen), done | _bits(chosen))
                         for chosen in _choices(calendar, joints, d, done)
                         if _ways_on(calendar, joints, d + 1, done | _bits(chosen), known) > 0])
        tree.append(row)
    return tuple(tree)


def _ask_wood_of(calendar, wood):
    """Raise BadShape unless the wood is one with as many leaves as the calendar."""
    ask_wood(wood)
    if wood_size(wood) != leaves_many(calendar):
        raise BadShape(1)


def _joints_of(calendar, wood):
    """Return the joints of a wood, those beneath a joint before it.

    Each is a triple: the names of its lines, the bits of the joints that are its parts, and the moment by which
    the leaves that hang on it directly are born.
    """
    found = []
    for shape in wood:
        _add_joints(calendar, shape, found)
    return found


def _add_joints(calendar, shape, found):
    """Add the joints of a shape to those found, and return the bit of the shape, 0 for a leaf."""
    if not isinstance(shape, tuple):
        return 0
    beneath = 0
    born = 0
    for part in shape:
        beneath = beneath | _add_joints(calendar, part, found)
        if not isinstance(part, tuple):
            born = max(born, calendar.born[part])
    found.append((tuple([least_leaf(part) for part in shape]), beneath, born))
    return 1 << (len(found) - 1)


def _bits(indexes):
    """Return the number with these bits."""
    return sum([1 << i for i in indexes])


def _ways_on(calendar, joints, d, done, known):
    """Return in how many ways the joints that are not done yet can be done on day d and later ones."""
    if d == days_many(calendar):
        return 1 if done == (1 << len(joints)) - 1 else 0
    if (d, done) not in known:
        total = 0
        for chosen in _choices(calendar, joints, d, done):
            total += _ways_on(calendar, joints, d + 1, done | _bits(chosen), known)
        known[(d, done)] = total
    return known[(d, done)]


def _choices(calendar, joints, d, done):
    """Return all sets of joints, as tuples of their indexes, that can be the groups of day d."""
    ready = []
    for i, (_, beneath, born) in enumerate(joints):
        is_new = done & (1 << i) == 0
        if is_new and done & beneath == beneath and born <= d:
            ready.append(i)
    pattern = calendar.days[d]
    found = [()]
    for s in sorted(set(pattern)):
        fitting = [i for i in ready if len(joints[i][0]) == s]
        many = len([size for size in pattern if size == s])
        found = [chosen + more for chosen in found for more in combinations(fitting, many)]
    return found


def _row_of(joints, chosen):
    """Return the row whose groups are these joints."""
    return tuple(sorted([joints[i][0] for i in chosen]))
