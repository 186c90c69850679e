"""The words of the leaves of a tree: the places of their lines, from the end back."""

from datedlines.calendars import days_many
from datedlines.trees import made_tree, names_at


def words(calendar, tree):
    """Return the words of all leaves of the tree."""
    made_tree(calendar, tree)
    return words_from_end(tree, names_at(calendar, tree, days_many(calendar)))


def words_from_end(rows, names):
    """Return the words of all leaves; the names are those of the lines at the end, ascending.

    The names of a group may stand in any order: a word has the place of its line in that order.
    """
    word_of = {name: (i,) for i, name in enumerate(names)}
    for row in rows[::-1]:
        for group in row:
            begun = word_of[min(group)]
            for place, name in enumerate(group):
                word_of[name] = begun + (place,)
    return tuple([word_of[x] for x in sorted(word_of)])
