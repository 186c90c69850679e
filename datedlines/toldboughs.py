"""How many trees have all sets of a family as lines.

The trees are counted day by day. Each line belongs to the least set of the family, not yet whole, that has it, or
to none. What is told from day to day is how many lines belong to each set; WHOLE stands for a set that is whole.
"""

from datedlines.alive import alive
from datedlines.families import ask_family
from datedlines.numbers import size
from datedlines.patterns import ways
from datedlines.shares import share

WHOLE = -1


def told_boughs(calendar, family):
    """Return the number of trees of which each set of the family is a line behind some day."""
    ask_family(calendar, family)
    now = {(0,) * len(family): 1}
    for d, pattern in enumerate(calendar.days):
        behind = {}
        for counts in now:
            ahead = _with_born(calendar, family, d, counts)
            for after, many in _over_day(alive(calendar, d), pattern, ahead):
                place = _with_whole(calendar, family, d, after)
                behind[place] = behind.get(place, 0) + now[counts] * many
        now = behind
    return now.get((WHOLE,) * len(family), 0)


def told_share(calendar, family):
    """Return told_boughs as a share of all trees."""
    return share(told_boughs(calendar, family), size(calendar))


def _with_born(calendar, family, d, counts):
    """Return the counts when the leaves that are born d have come."""
    found = list(counts)
    for x, moment in enumerate(calendar.born):
        owner = _owner(family, counts, [x])
        if moment == d and owner is not None:
            found[owner] += 1
    return tuple(found)


def _owner(family, counts, line):
    """Return the index of the least set, not yet whole, that has all of the line, None if there is none."""
    best = None
    for i, some in enumerate(family):
        if counts[i] != WHOLE and all([x in some for x in line]):
            if best is None or len(some) < len(family[best]):
                best = i
    return best


def _over_day(k, pattern, counts):
    """Return pairs: the counts behind a day on which lines of one set meet alone, how many rows lead to them."""
    lots = [max(0, count) for count in counts]
    found = []
    for parts in parted(pattern, lots + [k - sum(lots)]):
        many = ways(k - sum(lots), parts[-1])
        after = []
        for i, count in enumerate(counts):
            many = many * ways(lots[i], parts[i])
            after.append(count - sum(parts[i]) + len(parts[i]))
        found.append((tuple(after), many))
    return found


def parted(pattern, lots):
    """Return all ways to part the sizes among lots of so many lines; like sizes are not told apart.

    Each way is a tuple with a pattern for each lot.
    """
    found = [((),) * len(lots)]
    for s in sorted(set(pattern))[::-1]:
        found = [_joined(parts, more) for parts in found for more in _spread(pattern.count(s), s, len(lots))]
        found = [parts for parts in found if all([sum(part) <= lots[i] for i, part in enumerate(parts)])]
    return found


def _joined(parts, more):
    """Return the parts with some sizes more at the end of each."""
    return tuple([part + more[i] for i, part in enumerate(parts)])


def _spread(many, s, lots):
    """Return all ways to part so many sizes s among so many lots."""
    if lots == 1:
        return [((s,) * many,)]
    return [((s,) * here,) + later for here in range(many + 1) for later in _spread(many - here, s, lots - 1)]


def _with_whole(calendar, family, d, counts):
    """Return the counts behind day d when the sets of which one line is left have become whole."""
    found = list(counts)
    for i, some in enumerate(family):
        if counts[i] == 1 and _is_ready(calendar, family, d, counts, i):
            found[i] = WHOLE
            above = _owner(family, found, some)
            if above is not None:
                found[above] += 1
    return tuple(found)


def _is_ready(calendar, family, d, counts, i):
    """Tell whether all leaves of a set are born by day d, and all sets within it are whole."""
    if any([calendar.born[x] > d for x in family[i]]):
        return False
    inner = [j for j, some in enumerate(family) if j != i and all([x in family[i] for x in some])]
    return all([counts[j] == WHOLE for j in inner])
