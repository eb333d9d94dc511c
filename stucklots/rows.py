"""Rows of indexes that come one behind the other: how many there are, and the index of each one, ascending.

A set of indexes is told by its bits. What can come next is told by a list free: its item with the bits of what stands
ahead has the ascending indexes that can come next. A row ends where nothing can.
"""


def has_bit(bits, at):
    """Whether a set of indexes, told by its bits, has an index."""
    return (bits >> at) & 1 == 1


def row_counts(free):
    """By the bits of what stands ahead: how many rows go on from there."""
    counts = [1] * len(free)
    for placed in range(len(free) - 1, -1, -1):
        if free[placed]:
            counts[placed] = sum([counts[placed | (1 << at)] for at in free[placed]])
    return counts


def row_count_of(free):
    """How many rows there are."""
    return row_counts(free)[0]


def row_with_index(free, index):
    """The row that has an index."""
    counts = row_counts(free)
    row = []
    placed = 0
    left = index
    while free[placed]:
        at = 0
        while left >= counts[placed | (1 << free[placed][at])]:
            left -= counts[placed | (1 << free[placed][at])]
            at += 1
        row.append(free[placed][at])
        placed = placed | (1 << free[placed][at])
    return row


def index_of_row(free, row):
    """The index of a row."""
    counts = row_counts(free)
    placed = 0
    index = 0
    for chosen in row:
        index += sum([counts[placed | (1 << at)] for at in free[placed] if at < chosen])
        placed = placed | (1 << chosen)
    return index


def indexes_in(choices, items):
    """For each item, which may be any value, its index among some choices; None for one that is not among them."""
    return [choices.index(item) if item in choices else None for item in items]


def first_wrong(free, row):
    """The first place of a row whose index cannot come next there, or None."""
    placed = 0
    for place, chosen in enumerate(row):
        if chosen not in free[placed]:
            return place
        placed = placed | (1 << chosen)
    return None
