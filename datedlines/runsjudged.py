"""A judge of runs."""

from datedlines.errors import BadDeed
from datedlines.runs import MOST_DEEDS, walked
from datedlines.trees import is_tree


def run_right(calendar, tree, run, goal):
    """Tell whether tree and goal are trees of the calendar and the run leads from tree to goal."""
    if not is_tree(calendar, tree) or not is_tree(calendar, goal):
        return False
    if not isinstance(run, tuple) or len(run) > MOST_DEEDS:
        return False
    try:
        return walked(calendar, tree, run) == goal
    except BadDeed:
        return False
