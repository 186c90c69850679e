"""Runs as texts."""

from datedlines.checks import MOST_LEAVES
from datedlines.done import is_written
from datedlines.errors import BadDeed, BadText, TooMany
from datedlines.rowwords import numbers_behind, row_of, rows_of
from datedlines.runs import MOST_DEEDS

CHANGE = "change"
NUMBERS_OF_CHANGE = 3


def run_text(run):
    """Return the text of the run."""
    _ask_many(run)
    for i, deed in enumerate(run):
        if not is_written(deed) or not all([0 <= number <= MOST_LEAVES for number in deed[1:]]):
            raise BadDeed((i, 0))
    return "\n".join([row_of(CHANGE, deed[1:]) for deed in run])


def run_of(text):
    """Return the run that has this text."""
    rows = rows_of(text)
    _ask_many(rows)
    run = []
    for i, row in enumerate(rows):
        deed = deed_of(row)
        if deed is None:
            raise BadText(i)
        run.append(deed)
    return tuple(run)


def _ask_many(deeds):
    """Raise TooMany if there are more deeds than a run has."""
    if len(deeds) > MOST_DEEDS:
        raise TooMany(len(deeds))


def deed_of(row):
    """Return the deed that is written in a row, None if there is none."""
    numbers = numbers_behind(CHANGE, row)
    if numbers is None or len(numbers) != NUMBERS_OF_CHANGE:
        return None
    return (CHANGE,) + numbers
