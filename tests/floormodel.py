"""A plain model of a floor: all that stands is written down again behind each deed."""

from random import Random

from datedlines.calendars import Calendar
from datedlines.errors import BadDeed, BadMoment, BadRow, NothingToRedo, NothingToUndo, TooMany
from support import ODD, exchanged_sets, sets_at


def names_at(calendar, tree, d):
    return [min(lot) for lot in sets_at(calendar, tree, d)]


def are_groups(row, names):
    """Whether the row is a tuple of groups of at least two of these names, all in order, no name twice, not ()."""
    if not isinstance(row, tuple) or not row:
        return False
    taken = []
    for group in row:
        if not isinstance(group, tuple) or len(group) < 2:
            return False
        if any(name.__class__ is not int or name not in names for name in group) or list(group) != sorted(group):
            return False
        taken.extend(group)
    return list(row) == sorted(row) and len(set(taken)) == len(taken)


class Model:
    """The things that stand, and those behind each deed; a step that is refused tells (error, what)."""

    def __init__(self, calendar, tree):
        self.behind = [(calendar, tree, (calendar, tree), ())]
        self.undone = []

    def now(self):
        return self.behind[-1]

    def step(self, kind, *more):
        """Do a step; return what it raises, None if it is done."""
        calendar, tree, home, record = self.now()
        if kind == "undo":
            if len(self.behind) == 1:
                return NothingToUndo, 0
            self.undone.append(self.behind.pop())
            return None
        if kind == "redo":
            if not self.undone:
                return NothingToRedo, 0
            self.behind.append(self.undone.pop())
            return None
        wrong = getattr(self, "wrong_" + kind)(calendar, tree, *more)
        if wrong is None and len(record) == 300:
            wrong = TooMany, 301
        if wrong is None:
            self.undone = []
            self.behind.append(getattr(self, "after_" + kind)(calendar, tree, home, record, *more))
        return wrong

    def wrong_mark(self, calendar, tree):
        return None

    def after_mark(self, calendar, tree, home, record):
        return calendar, tree, (calendar, tree), record + (("mark",),)

    def wrong_change(self, calendar, tree, d, a, b):
        if d not in range(len(tree)):
            return BadDeed, 1
        names = names_at(calendar, tree, d)
        return None if a < b and a in names and b in names else (BadDeed, 2)

    def after_change(self, calendar, tree, home, record, d, a, b):
        return calendar, exchanged_sets(calendar, tree, d, a, b), home, record + (("change", d, a, b),)

    def wrong_regroup(self, calendar, tree, d, row):
        if d not in range(len(tree)):
            return BadMoment, d
        rows = tree[:d] + (row,) + tree[d + 1:]
        for e in range(d, len(tree)):
            if not are_groups(rows[e], names_at(calendar, rows, e)):
                return BadRow, e
        return None

    def after_regroup(self, calendar, tree, home, record, d, row):
        days = list(calendar.days)
        days[d] = tuple(sorted(map(len, row), reverse=True))
        rows = tree[:d] + (row,) + tree[d + 1:]
        return Calendar(calendar.born, tuple(days)), rows, home, record + (("regroup", d, tree[d], row),)


def random_steps(calendar, tree, many, seed):
    """So many steps, most of them such as can be done where they stand, each as a tuple of its kind and arguments."""
    random = Random(seed)
    model = Model(calendar, tree)
    steps = []
    for _ in range(many):
        calendar, tree, _, _ = model.now()
        kind = random.choice(["change"] * 4 + ["regroup"] * 5 + ["mark", "undo", "undo", "redo", "redo"])
        more = ()
        if kind == "change":
            more = random_change(random, calendar, tree)
        if kind == "regroup":
            more = random_regrouping(random, calendar, tree)
        steps.append((kind,) + more)
        model.step(kind, *more)
    return steps


def random_change(random, calendar, tree):
    if not tree or random.random() < 0.2:
        return tuple(random.randrange(-1, len(calendar.born) + 2) for _ in range(3))
    d = random.randrange(len(tree))
    names = names_at(calendar, tree, d)
    if len(names) < 2:
        return (d, 0, 1)
    return (d,) + tuple(sorted(random.sample(names, 2)))


def random_regrouping(random, calendar, tree):
    if not tree or random.random() < 0.1:
        return (random.choice((-1, len(tree), 12)), ((0, 1),))
    d = random.randrange(len(tree))
    if random.random() < 0.1:
        return (d, random.choice(ODD + ((), ((0,),), ((1, 0),), ((0, 1), (0, 2)), ((0, 11),))))
    names = names_at(calendar, tree, d)
    random.shuffle(names)
    row = []
    while len(names) > 1 and random.random() < 0.7:
        many = random.choice((2, 2, 2, 3))
        row.append(tuple(sorted(names[:many])))
        names = names[many:]
    return (d, tuple(sorted(row)))
