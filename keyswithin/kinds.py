"""The kinds of values that several modules ask after: each function takes anything."""

MOST_LETTERS = 8
SMALL_LETTERS = "abcdefghijklmnopqrstuvwxyz"


def is_whole(thing):
    """Whether it is a whole number: a truth is none, though Python has it as an int."""
    return isinstance(thing, int) and not isinstance(thing, bool)


def is_pair(thing):
    """Whether it is a tuple of two."""
    return isinstance(thing, tuple) and len(thing) == 2


def is_colours(thing, most):
    """Whether it is a rising tuple of at most so many colours."""
    if not isinstance(thing, tuple) or len(thing) > most:
        return False
    # A house has many colours and is looked at each time it is handed in: so each colour is come to
    # but once (what rises from the empty text is not empty), and their letters are looked at together.
    before = ""
    for part in thing:
        if not isinstance(part, str) or part <= before or len(part) > MOST_LETTERS:
            return False
        before = part
    return "".join(thing).strip(SMALL_LETTERS) == ""


def is_colour(thing):
    """Whether it is a text of 1 to 8 small letters."""
    return is_colours((thing,), 1)


def is_place(thing, many):
    """Whether it is the number of one of so many boxes."""
    return is_whole(thing) and 0 <= thing < many


def is_boxes(thing, many):
    """Whether it is a rising tuple, also an empty one, of boxes of a house that has so many."""
    if not isinstance(thing, tuple):
        return False
    before = -1
    for part in thing:
        if not is_whole(part) or not before < part < many:
            return False
        before = part
    return True
