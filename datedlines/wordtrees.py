"""Woods of words."""

from datedlines.checks import MOST_LEAVES, is_number
from datedlines.errors import BadSize, BadWord, NotWhole
from datedlines.shapes import least_leaf


def wood_of_words(rows):
    """Return the wood of leaves with these words."""
    _ask_words(rows)
    lots = _lots(rows, list(range(len(rows))), 0)
    if not _is_counted(lots):
        raise NotWhole(())
    return _in_order([_shape_of(rows, lots[k], (k,)) for k in range(len(lots))])


def _ask_words(rows):
    """Raise BadSize or BadWord unless the rows are 1 to 12 words, none of them the beginning of another one."""
    if not isinstance(rows, tuple):
        raise BadSize(0)
    if not 1 <= len(rows) <= MOST_LEAVES:
        raise BadSize(len(rows))
    for i, word in enumerate(rows):
        if not _is_word(word) or word in rows[:i] or any([_begins(word, other) for other in rows]):
            raise BadWord(i)


def _is_word(thing):
    """Tell whether the thing is a tuple of at least one number, all from 0 on."""
    if not isinstance(thing, tuple) or len(thing) == 0:
        return False
    return all([is_number(part) and part >= 0 for part in thing])


def _begins(word, other):
    """Tell whether the word is the beginning of another one that is a longer tuple."""
    return isinstance(other, tuple) and len(other) > len(word) and other[:len(word)] == word


def _shape_of(rows, which, begun):
    """Return the shape of those leaves whose words begin so.

    A joint is asked before those on it, and these ascending, so the first bad one is the least. What is deeper
    than that is never looked at, however long the words are.
    """
    if len(which) == 1 and rows[which[0]] == begun:
        return which[0]
    lots = _lots(rows, which, len(begun))
    if len(lots) < 2 or not _is_counted(lots):
        raise NotWhole(begun)
    return _in_order([_shape_of(rows, lots[k], begun + (k,)) for k in range(len(lots))])


def _lots(rows, which, at):
    """Return the leaves in lots, by the numbers that their words have at an index."""
    lots = {}
    for i in which:
        lots.setdefault(rows[i][at], []).append(i)
    return lots


def _is_counted(lots):
    """Tell whether the numbers of the lots are 0, 1, .. without a gap."""
    return sorted(lots) == list(range(len(lots)))


def _in_order(shapes):
    """Return the shapes in the order of their least leaves."""
    return tuple(sorted(shapes, key=least_leaf))
