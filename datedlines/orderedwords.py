"""Ordered trees and their words."""

from datedlines.calendarlooks import is_level
from datedlines.calendars import days_many, leaves_many
from datedlines.errors import BadSize, NotLevel, NotWhole
from datedlines.ordered import plain_of
from datedlines.trees import names_at
from datedlines.words import words_from_end
from datedlines.wordtrees import wood_of_words


def words_of(calendar, ordered):
    """Return the words of all leaves of the ordered tree."""
    tree = plain_of(calendar, ordered)
    return words_from_end(ordered, names_at(calendar, tree, days_many(calendar)))


def ordered_of_words(calendar, rows):
    """Return the ordered tree of a level calendar with these words."""
    if not is_level(calendar):
        raise NotLevel(0)
    wood_of_words(rows)
    _ask_lengths(calendar, rows)
    parts = _parts_of(rows)
    for joint in sorted(parts):
        if parts[joint] != calendar.days[0][0]:
            raise NotWhole(joint)
    name_of = _names_of(rows)
    tree = []
    for length in range(days_many(calendar), 0, -1):
        groups = []
        for joint in parts:
            if len(joint) == length:
                groups.append(tuple([name_of[joint + (k,)] for k in range(parts[joint])]))
        tree.append(tuple(sorted(groups, key=min)))
    return tuple(tree)


def _ask_lengths(calendar, rows):
    """Raise BadSize or NotLevel unless each leaf has a word, with a number for each day that it lives ahead of."""
    if len(rows) != leaves_many(calendar):
        raise BadSize(len(rows))
    for x, word in enumerate(rows):
        if len(word) != days_many(calendar) - calendar.born[x] + 1:
            raise NotLevel((x,))


def _parts_of(rows):
    """Return for each joint of the words, its beginning, how many parts it has."""
    parts = {}
    for word in rows:
        for length in range(1, len(word)):
            joint = word[:length]
            parts[joint] = max(parts.get(joint, 0), word[length] + 1)
    return parts


def _names_of(rows):
    """Return for each beginning of a word, which is a line, the least leaf of the line."""
    name_of = {}
    for x, word in enumerate(rows):
        for length in range(1, len(word) + 1):
            name_of.setdefault(word[:length], x)
    return name_of
