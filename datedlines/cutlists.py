"""All cuts of a small set."""

from datedlines.calendars import days_many
from datedlines.checks import ask_set
from datedlines.cutshares import born_by, just_these_share
from datedlines.errors import TooMany
from datedlines.patterns import less, patterns, ways
from datedlines.shares import times

MOST_OF_SET = 4


def cuts_of(calendar, some):
    """Return the triples (patterns of the small calendar, its days, share) of all cuts to the set that there are."""
    ask_set(calendar, some)
    if len(some) > MOST_OF_SET:
        raise TooMany(len(some))
    now = {((), ()): (1, 1)}
    for d in range(days_many(calendar)):
        behind = {}
        for taken, days in now:
            lines = born_by(calendar, some, d) - sum([less(pattern) for pattern in taken])
            for sizes in ((),) + patterns(lines):
                chance = times((ways(lines, sizes), 1), just_these_share(calendar, d, lines, sizes))
                if chance != (0, 1):
                    place = (taken, days) if sizes == () else (taken + (sizes,), days + (d,))
                    behind[place] = times(now[(taken, days)], chance)
        now = behind
    return tuple([(taken, days, now[(taken, days)]) for taken, days in sorted(now)])
