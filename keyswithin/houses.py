"""Houses: which boxes open, in what rounds, and what a lost colour keeps shut."""

from keyswithin.errors import NoColour, NoHouse
from keyswithin.kinds import is_colour, is_colours, is_pair
from keyswithin.rows import without

MOST_BOXES = 30
MOST_LOCKS = 3
MOST_KEYS = 6


def is_box(thing):
    """Whether it is a pair of the colours of locks and of keys."""
    return is_pair(thing) and is_colours(thing[0], MOST_LOCKS) and is_colours(thing[1], MOST_KEYS)


def is_house(thing):
    """Whether it is a house, asked of anything."""
    if not is_pair(thing):
        return False
    boxes, hand = thing
    if not isinstance(boxes, tuple) or not 1 <= len(boxes) <= MOST_BOXES:
        return False
    for box in boxes:
        if not is_box(box):
            return False
    return is_colours(hand, MOST_KEYS)


def check_house(house):
    """Refuse what is no house."""
    if not is_house(house):
        raise NoHouse("this is no house")


def keys_in(boxes, some):
    """The colours of the keys that lie in some of the boxes."""
    return [colour for box in some for colour in boxes[box][1]]


def fits(locks, held):
    """Whether each of the locks has a key among those held."""
    for colour in locks:
        if colour not in held:
            return False
    return True


def opened_in_rounds(boxes, held, closed):
    """The rounds in which boxes of those closed are opened with the keys held, and those left shut."""
    told = []
    ready = [box for box in closed if fits(boxes[box][0], held)]
    while ready:
        told.append(tuple(ready))
        held = held + keys_in(boxes, ready)
        closed = [box for box in closed if box not in ready]
        ready = [box for box in closed if fits(boxes[box][0], held)]
    return told, tuple(closed)


def shut_boxes(boxes, hand, broken):
    """The boxes that are never opened where the broken ones are broken, rising."""
    held = list(hand) + keys_in(boxes, broken)
    closed = [box for box in range(len(boxes)) if box not in broken]
    told, left = opened_in_rounds(boxes, held, closed)
    return left


def rounds(house):
    """The boxes opened in each round, a list of rising tuples."""
    check_house(house)
    boxes, hand = house
    told, left = opened_in_rounds(boxes, list(hand), list(range(len(boxes))))
    return told


def shut(house):
    """The boxes that are never opened, rising."""
    check_house(house)
    boxes, hand = house
    return shut_boxes(boxes, hand, ())


def lost(house, colour):
    """The boxes that are shut only where all keys of this colour are lost, rising."""
    check_house(house)
    if not is_colour(colour):
        raise NoColour("this is no colour")
    boxes, hand = house
    fewer = [(locks, without(keys, colour)) for locks, keys in boxes]
    shut_anyway = shut_boxes(boxes, hand, ())
    shut_then = shut_boxes(fewer, without(hand, colour), ())
    return tuple([box for box in shut_then if box not in shut_anyway])
