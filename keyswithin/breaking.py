"""Breaking: the fewest boxes to be broken, and the lots that show that fewer do not."""

from keyswithin.errors import Locks, NoBoxes, TooMany
from keyswithin.houses import check_house, fits, keys_in, shut_boxes
from keyswithin.kinds import is_boxes

# With several locks to a box all lots have to be tried, so there must be few of them.
MOST_TO_TRY = 10


def has_single_locks(boxes):
    """Whether each box has one lock at most."""
    return all([len(locks) <= 1 for locks, keys in boxes])


def lot_around(boxes, box):
    """The least lot that is kept shut and has this box, one that stays shut, with one lock.

    With each box all those belong to it in which a key to its lock lies.
    """
    lot = [box]
    waiting = [box]
    while waiting:
        colour = boxes[waiting.pop()][0][0]
        for other in range(len(boxes)):
            if colour in boxes[other][1] and other not in lot:
                lot.append(other)
                waiting.append(other)
    return tuple(sorted(lot))


def least_lots(boxes, hand):
    """The lots kept shut that have no lesser one within them, of boxes with one lock at most.

    There is no choice in them: such a lot is that around each of its boxes. Each wants one box
    broken, and that opens all of it.
    """
    around = {box: lot_around(boxes, box) for box in shut_boxes(boxes, hand, ())}
    return sorted({lot for lot in around.values() if all([around[box] == lot for box in lot])})


def lots_of(boxes, many):
    """All rising tuples of so many of the boxes, which are rising; the first ahead."""
    lots = [()]
    for step in range(many):
        lots = [(*lot, box) for lot in lots for box in boxes if not lot or lot[-1] < box]
    return lots


def fewest_by_trial(boxes, hand):
    """The first of the least lots that, broken, open all; boxes that open anyway are in none."""
    stuck = shut_boxes(boxes, hand, ())
    for many in range(len(stuck)):
        for lot in lots_of(stuck, many):
            if not shut_boxes(boxes, hand, lot):
                return lot
    return stuck


def fewest(house):
    """The fewest boxes to be broken so that all are opened, of as few the first."""
    check_house(house)
    boxes, hand = house
    if has_single_locks(boxes):
        return tuple([lot[0] for lot in least_lots(boxes, hand)])
    if len(boxes) > MOST_TO_TRY:
        raise TooMany(MOST_TO_TRY)
    return fewest_by_trial(boxes, hand)


def shut_with(house, broken):
    """The boxes that are never opened where the broken ones are broken, rising."""
    check_house(house)
    boxes, hand = house
    if not is_boxes(broken, len(boxes)):
        raise NoBoxes("this is no rising tuple of boxes of the house")
    return shut_boxes(boxes, hand, broken)


def is_kept(house, thing):
    """Whether it is a lot that is kept shut, asked of anything."""
    check_house(house)
    boxes, hand = house
    if not is_boxes(thing, len(boxes)) or len(thing) == 0:
        return False
    others = [box for box in range(len(boxes)) if box not in thing]
    held = list(hand) + keys_in(boxes, others)
    for box in thing:
        if fits(boxes[box][0], held):
            return False
    return True


def kept_lots(house):
    """Lots kept shut, as many as the fewest to be broken, each as small as can be, rising."""
    check_house(house)
    boxes, hand = house
    if not has_single_locks(boxes):
        raise Locks("a box has more than one lock")
    return least_lots(boxes, hand)
