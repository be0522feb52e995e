"""Layings: keys laid one to a box, their rounds, and how many layings there are of a sort."""

from keyswithin.errors import NoLaying, NoNumber
from keyswithin.houses import MOST_BOXES
from keyswithin.kinds import is_whole

# Layings are counted also of more boxes than one laying may have.
MOST_COUNTED = 40


def is_laying(thing):
    """Whether it is a laying, asked of anything."""
    if not isinstance(thing, tuple) or not 1 <= len(thing) <= MOST_BOXES:
        return False
    return all([is_whole(part) for part in thing]) and sorted(thing) == list(range(len(thing)))


def check_laying(laying):
    """Refuse what is no laying."""
    if not is_laying(laying):
        raise NoLaying("this is no laying")


def check_number(thing, least, most):
    """Refuse what is no whole number from the least to the most."""
    if not is_whole(thing) or not least <= thing <= most:
        raise NoNumber(f"this is no whole number from {least} to {most}")


def check_whole(thing):
    """Refuse what is no whole number at all."""
    if not is_whole(thing):
        raise NoNumber("this is no whole number")


def round_from(laying, box):
    """The boxes that one comes to from this one, round to itself."""
    told = [box]
    after = laying[box]
    while after != box:
        told.append(after)
        after = laying[after]
    return tuple(told)


def rounds_of(laying):
    """The rounds, each from its least box on, rising."""
    check_laying(laying)
    told = []
    seen = set()
    for box in range(len(laying)):
        if box not in seen:
            told.append(round_from(laying, box))
            for other in told[-1]:
                seen.add(other)
    return told


def all_layings(boxes):
    """How many layings of so many boxes there are."""
    many = 1
    for box in range(boxes):
        many *= box + 1
    return many


def counts_by_rounds(boxes):
    """How many layings of so many boxes there are of no round, of one, and so on to all."""
    counts = [1]
    for before in range(boxes):
        # One box more makes a round of its own, or comes into a round right behind one of those before.
        alone = [0, *counts]
        between = [before * many for many in counts] + [0]
        counts = [one + other for one, other in zip(alone, between)]
    return counts


def with_rounds(boxes, many):
    """How many layings of so many boxes have so many rounds."""
    check_number(boxes, 0, MOST_COUNTED)
    check_whole(many)
    if not 0 <= many <= boxes:
        return 0
    return counts_by_rounds(boxes)[many]


def with_size(boxes, many):
    """In how many layings of so many boxes the round of box 0 has so many."""
    check_number(boxes, 1, MOST_COUNTED)
    check_whole(many)
    if not 1 <= many <= boxes:
        return 0
    # Whatever the size: the ways to go round, times the layings of the boxes left, are as many as the
    # layings of one box fewer.
    return all_layings(boxes - 1)


def together(boxes, many):
    """In how many layings of so many boxes the first so many are all in one round."""
    check_number(boxes, 1, MOST_COUNTED)
    check_number(many, 1, boxes)
    # Of the layings of the first many boxes one in so many is a single round. A box that comes to them
    # goes between two of a round or makes its own: it joins and parts none of them.
    return all_layings(boxes) // many
