"""Exchanges of keys: where a row of them leads, and the fewest that lead somewhere."""

from keyswithin.errors import NoRow, Unlike
from keyswithin.kinds import is_boxes
from keyswithin.layings import check_laying, check_number, rounds_of

MOST_EXCHANGES = 60


def is_exchange(thing, boxes):
    """Whether it is a pair of boxes, rising, of so many."""
    return is_boxes(thing, boxes) and len(thing) == 2


def is_row(thing, boxes):
    """Whether it is a list of not too many exchanges between so many boxes."""
    if not isinstance(thing, list) or len(thing) > MOST_EXCHANGES:
        return False
    return all([is_exchange(part, boxes) for part in thing])


def behind(laying, row):
    """The laying behind the exchanges of a row, one behind the other."""
    check_laying(laying)
    if not is_row(row, len(laying)):
        raise NoRow("this is no row of exchanges of this laying")
    keys = list(laying)
    for one, other in row:
        keys[one], keys[other] = keys[other], keys[one]
    return tuple(keys)


def row_to(laying, other):
    """As few exchanges as lead from a laying to the other one."""
    check_laying(laying)
    check_laying(other)
    if len(laying) != len(other):
        raise Unlike("these layings are not of as many boxes")
    keys = list(laying)
    row = []
    # An exchange makes one ring of misplaced keys more or one fewer; each of these, which fetches the
    # due key for good, makes one more, so there are no fewer that lead there.
    for box in range(len(laying)):
        place = keys.index(other[box])
        if place != box:
            row.append((box, place))
            keys[box], keys[place] = keys[place], keys[box]
    return row


def joins(rounds):
    """Exchanges each of which makes one round fewer, down to one: each joins a round to the first."""
    return [(rounds[0][0], boxes[0]) for boxes in rounds[1:]]


def splits(rounds):
    """Exchanges each of which makes one round more, up to all: each sets one box by itself."""
    return [(boxes[0], box) for boxes in rounds for box in boxes[1:]]


def row_to_rounds(laying, many):
    """As few exchanges as lead from a laying to one of so many rounds."""
    check_laying(laying)
    check_number(many, 1, len(laying))
    rounds = rounds_of(laying)
    if many < len(rounds):
        return joins(rounds)[:len(rounds) - many]
    return splits(rounds)[:many - len(rounds)]
