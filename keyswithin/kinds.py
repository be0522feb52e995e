"""The kinds of values that several modules ask after: each function takes anything."""

MOST_LETTERS = 8


def is_whole(thing):
    """Whether it is a whole number: a truth is none, though Python has it as an int."""
    return isinstance(thing, int) and not isinstance(thing, bool)


def is_pair(thing):
    """Whether it is a tuple of two."""
    return isinstance(thing, tuple) and len(thing) == 2


def is_rising(row):
    """Whether a row of things that can be compared is in order, none twice."""
    return all([one < other for one, other in zip(row, row[1:])])


def is_colour(thing):
    """Whether it is a text of 1 to 8 small letters."""
    if not isinstance(thing, str) or not 1 <= len(thing) <= MOST_LETTERS:
        return False
    return all(["a" <= sign <= "z" for sign in thing])


def is_colours(thing, most):
    """Whether it is a rising tuple of at most so many colours."""
    if not isinstance(thing, tuple) or len(thing) > most:
        return False
    return all([is_colour(part) for part in thing]) and is_rising(thing)


def is_place(thing, many):
    """Whether it is the number of one of so many boxes."""
    return is_whole(thing) and 0 <= thing < many


def is_boxes(thing, many):
    """Whether it is a rising tuple, also an empty one, of boxes of a house that has so many."""
    if not isinstance(thing, tuple):
        return False
    return all([is_place(part, many) for part in thing]) and is_rising(thing)
