"""A floor: a calendar and a tree that are changed by deeds, which can be undone."""

from datedlines.calendars import Calendar, days_many
from datedlines.checks import ask_moment
from datedlines.done import exchanged, wrong_with_change
from datedlines.errors import BadDeed, BadRow, NothingToRedo, NothingToUndo, TooMany
from datedlines.patterns import is_pattern
from datedlines.trees import are_groups, made_tree, names_after, names_at, sizes_of

MOST_STANDING = 300


class Floor:
    """A calendar, a tree of it, a mark, and the deeds that stand.

    A state is a triple (calendar, tree, mark); it is never changed, so states are kept to be taken up again.
    """

    def __init__(self, calendar, tree):
        made_tree(calendar, tree)
        self._state = (calendar, tree, (calendar, tree))
        # For each deed that stands, the pair of its row in the record and the state before it.
        self._standing = []
        # For each deed that is undone, the last one at the end, the pair of its row and the state behind it.
        self._undone = []

    def change(self, d, a, b):
        """Exchange what hangs beneath two lines of moment d."""
        calendar, tree, home = self._state
        which = wrong_with_change(calendar, tree, d, a, b)
        if which is not None:
            raise BadDeed(which)
        deed = ("change", d, a, b)
        self._stand(deed, (calendar, exchanged(tree, deed), home))

    def regroup(self, d, row):
        """Give the groups of the row to day d; the calendar is found anew."""
        calendar, tree, home = self._state
        ask_moment(d, days_many(calendar) - 1)
        rows = _regrouped(calendar, tree, d, row)
        anew = Calendar(calendar.born, tuple([sizes_of(groups) for groups in rows]))
        self._stand(("regroup", d, tree[d], row), (anew, rows, home))

    def mark(self):
        """Make the calendar and the tree as they stand the mark."""
        calendar, tree, _ = self._state
        self._stand(("mark",), (calendar, tree, (calendar, tree)))

    def _stand(self, row, state):
        """Let a deed stand that leads to this state."""
        if len(self._standing) == MOST_STANDING:
            raise TooMany(MOST_STANDING + 1)
        self._standing.append((row, self._state))
        self._undone = []
        self._state = state

    def undo(self):
        """Take back the last deed that stands."""
        if len(self._standing) == 0:
            raise NothingToUndo(0)
        row, before = self._standing.pop()
        self._undone.append((row, self._state))
        self._state = before

    def redo(self):
        """Do again the deed that was undone last."""
        if len(self._undone) == 0:
            raise NothingToRedo(0)
        row, behind = self._undone.pop()
        self._standing.append((row, self._state))
        self._state = behind

    def calendar(self):
        """Return the calendar that stands."""
        return self._state[0]

    def tree(self):
        """Return the tree that stands."""
        return self._state[1]

    def marked(self):
        """Return the calendar and the tree of the mark."""
        return self._state[2]

    def record(self):
        """Return a row for each deed that stands."""
        return tuple([row for row, _ in self._standing])


def _regrouped(calendar, tree, d, row):
    """Return the tree with the row on day d, if this and all later rows are groups of lines alive then."""
    rows = tree[:d] + (row,) + tree[d + 1:]
    names = names_at(calendar, tree, d)
    if not are_groups(names, row) or row == () or not is_pattern(sizes_of(row)):
        raise BadRow(d)
    for e in range(d + 1, len(rows)):
        names = names_after(calendar, e - 1, names, rows[e - 1])
        if not are_groups(names, rows[e]):
            raise BadRow(e)
    return rows
