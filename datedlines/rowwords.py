"""Rows of texts and their words. What cannot be read is None."""

NUMBER_WORDS = ("0", "1", "2", "3", "4", "5", "6", "7", "8", "9", "10", "11", "12")


def row_of(head, numbers):
    """Return the row with a first word and some numbers."""
    return " ".join([head] + [str(number) for number in numbers])


def groups_row(head, groups):
    """Return the row with a first word and some groups."""
    return " ".join([head] + ["-".join([str(name) for name in group]) for group in groups])


def rows_of(text):
    """Return the rows of a text; the empty text has none."""
    return [] if text == "" else text.split("\n")


def number_of(word):
    """Return the number of a number word."""
    return NUMBER_WORDS.index(word) if word in NUMBER_WORDS else None


def numbers_of(row_words):
    """Return the numbers of number words as a tuple."""
    numbers = tuple([number_of(word) for word in row_words])
    return None if None in numbers else numbers


def numbers_behind(head, row):
    """Return the numbers of a row with this first word."""
    row_words = row.split(" ")
    return numbers_of(row_words[1:]) if row_words[0] == head else None


def groups_of(row_words):
    """Return the groups, of one name or more each, that are written in these words."""
    groups = tuple([numbers_of(word.split("-")) for word in row_words])
    return None if None in groups else groups


def groups_behind(head, row):
    """Return the groups of a row with this first word."""
    row_words = row.split(" ")
    return groups_of(row_words[1:]) if row_words[0] == head else None
