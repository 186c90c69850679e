"""A floor that is told and asked in words."""

from datedlines.calendartext import calendar_text
from datedlines.errors import BadWord
from datedlines.floorasks import can_go_home, kin, way_home
from datedlines.rowwords import groups_of, number_of
from datedlines.runtext import deed_of, run_text
from datedlines.treetext import tree_text


def answer(floor, row):
    """Do what the row tells the floor, or return what it asks for."""
    if row == "tree":
        return _in_one_row(tree_text(floor.calendar(), floor.tree()))
    if row == "calendar":
        return _in_one_row(calendar_text(floor.calendar()))
    if row == "home":
        return "yes" if can_go_home(floor) else "no"
    _tell(floor, row)
    return "ok"


def asked(floor, row):
    """Return the way home or the number of kin."""
    if row == "way":
        return _in_one_row(run_text(way_home(floor)))
    if row == "kin":
        return str(kin(floor))
    raise BadWord(row)


def _in_one_row(text):
    """Return the text with semicolons between its rows."""
    return text.replace("\n", ";")


def _tell(floor, row):
    """Do what the row tells the floor."""
    deed = deed_of(row)
    if deed is not None:
        _, d, a, b = deed
        floor.change(d, a, b)
    elif row == "mark":
        floor.mark()
    elif row == "undo":
        floor.undo()
    elif row == "redo":
        floor.redo()
    else:
        d, groups = _regrouping(row)
        floor.regroup(d, groups)


def _regrouping(row):
    """Return the day and the groups of a row that regroups."""
    row_words = row.split(" ")
    if row_words[0] != "regroup" or len(row_words) == 1:
        raise BadWord(row)
    d = number_of(row_words[1])
    groups = groups_of(row_words[2:])
    if d is None or groups is None:
        raise BadWord(row)
    return d, groups
