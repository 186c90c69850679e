"""The errors of the package, all under Refused."""


class Refused(ValueError):
    """What is asked cannot be done; what tells the reason."""

    def __init__(self, what):
        self.what = what


class BadSize(Refused):
    """A number of things is out of its range."""


class BadBirth(Refused):
    """A leaf has no right birth."""


class BadDay(Refused):
    """A day has no right pattern."""


class TooFew(Refused):
    """More lines are asked for than there are."""


class BadRow(Refused):
    """A row is not one of a tree."""


class BadDeed(Refused):
    """A deed cannot be done."""


class BadCount(Refused):
    """A number is out of its range."""


class BadLeaf(Refused):
    """A number is no leaf that may stand there."""


class BadSet(Refused):
    """A tuple is no set of leaves."""


class BadMoment(Refused):
    """A number is no moment or day that may stand there."""


class BadNames(Refused):
    """A tuple is no row of names."""


class Unlike(Refused):
    """Two things differ that have to be alike."""


class TooMany(Refused):
    """There are more things than are allowed."""


class BadDates(Refused):
    """A pair is none of dates."""


class BadDepth(Refused):
    """A number is no depth."""


class NotWhole(Refused):
    """Things do not make up a whole."""


class BadShape(Refused):
    """A thing is no wood that may stand there."""


class BadWeave(Refused):
    """A row does not weave two calendars."""


class BadFamily(Refused):
    """Sets are no family."""


class BadTable(Refused):
    """A thing is no table of meeting days."""


class NotLevel(Refused):
    """A calendar or a word is not level."""


class BadText(Refused):
    """A text has a bad row."""


class BadWord(Refused):
    """A word or a row of words is not understood."""


class NothingToUndo(Refused):
    """No deed stands."""


class NothingToRedo(Refused):
    """No deed is undone."""
