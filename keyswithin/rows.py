"""Rows made out of rows: all are tuples, and those handed in stay as they are."""


def without(row, gone):
    """The row but for one of its things."""
    return tuple([part for part in row if part != gone])


def joined(row, more):
    """All that is in the one or the other, rising."""
    return tuple(sorted(set(row + more)))


def changed(row, place, part):
    """The row with another part at this place."""
    return row[:place] + (part,) + row[place + 1:]
