"""How many trees all calendars of one number of leaves have together."""

from datedlines.checks import ask_leaves_many, ask_size


def stirling(k, j):
    """Return in how many ways k things are parted into j lots, none of them empty."""
    ask_size(k)
    ask_size(j)
    # row[i] is for i lots; a further thing comes into one of them or is a lot of its own.
    row = [1] + [0] * j
    for _ in range(k):
        row = [0] + [i * row[i] + row[i - 1] for i in range(1, j + 1)]
    return row[j]


def chains(k):
    """Return how many trees all calendars have in which k leaves are born 0 and one line ends."""
    ask_leaves_many(k)
    many = [0, 1]
    for lines in range(2, k + 1):
        many.append(sum([stirling(lines, j) * many[j] for j in range(1, lines)]))
    return many[k]
