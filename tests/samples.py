"""Houses and things for the tests, and a slow plain reckoning to hold the program against."""

import itertools
import random

LETTERS = "abcdefghijklmnopqrstuvwxyz"


def names(many):
    """So many colours, rising."""
    return tuple(sorted("c" + LETTERS[at // 26] + LETTERS[at % 26] for at in range(many)))


def parts(colours, most):
    """All rising tuples of at most so many of the colours."""
    sizes = range(min(most, len(colours)) + 1)
    return [part for size in sizes for part in itertools.combinations(colours, size)]


def lots(many):
    """All rising tuples of boxes of a house of so many, the fewest ahead, then the first."""
    return [lot for size in range(many + 1) for lot in itertools.combinations(range(many), size)]


def tiny_houses():
    """All houses of one and of two boxes, with two colours."""
    some = parts(("a", "b"), 2)
    boxes = list(itertools.product(some, some))
    for many in (1, 2):
        for row in itertools.product(boxes, repeat=many):
            for hand in some:
                yield row, hand


def random_house(chance, boxes, colours, locks, keys, hand):
    """A house with at most so many locks and keys a box, and in the hand."""
    def pick(most):
        return tuple(sorted(chance.sample(colours, chance.randint(0, min(most, len(colours))))))
    return tuple((pick(locks), pick(keys)) for _ in range(boxes)), pick(hand)


def small_houses(seed, many, locks):
    """Houses of three to seven boxes."""
    chance = random.Random(seed)
    for _ in range(many):
        colours = names(chance.randint(2, 7))
        hand = chance.randint(0, 1)
        yield random_house(chance, chance.randint(3, 7), colours, locks, chance.randint(1, 3), hand)


def large_houses(seed, many, locks):
    """Houses of thirty boxes, many of them stuck."""
    chance = random.Random(seed)
    for _ in range(many):
        colours = names(chance.randint(15, 40))
        yield random_house(chance, 30, colours, locks, chance.randint(1, 3), chance.randint(0, 1))


def ring_house(rings):
    """A house of rings: each box has a lock of its own and the key of the next of its ring."""
    size = sum(len(ring) for ring in rings)
    colour = names(size)
    boxes = [None] * size
    for ring in rings:
        for at, box in enumerate(ring):
            boxes[box] = ((colour[box],), (colour[ring[(at + 1) % len(ring)]],))
    return tuple(boxes), ()


def plainly_colours(thing, most):
    """Whether it is a rising tuple of at most so many colours, word for word."""
    if type(thing) is not tuple or len(thing) > most or not all(type(part) is str for part in thing):
        return False
    texts = all(1 <= len(part) <= 8 and set(part) <= set(LETTERS) for part in thing)
    return texts and list(thing) == sorted(set(thing))


def plainly_house(thing):
    """Whether it is a house, word for word."""
    if type(thing) is not tuple or len(thing) != 2:
        return False
    boxes, hand = thing
    if type(boxes) is not tuple or len(boxes) not in range(1, 31) or not plainly_colours(hand, 6):
        return False
    pairs = all(type(box) is tuple and len(box) == 2 for box in boxes)
    return pairs and all(plainly_colours(locks, 3) and plainly_colours(keys, 6) for locks, keys in boxes)


def left_shut(house, broken=(), chance=None):
    """The boxes never opened, found by opening one box at a time, in any order."""
    boxes, hand = house
    left = [box for box in range(len(boxes)) if box not in broken]
    held = set(hand).union(*(boxes[box][1] for box in broken))
    while True:
        ready = [box for box in left if set(boxes[box][0]) <= held]
        if not ready:
            return tuple(left)
        box = chance.choice(ready) if chance else ready[0]
        left.remove(box)
        held |= set(boxes[box][1])


def first_fewest(house):
    """The first of the fewest boxes that, broken, open all, found by trying all lots."""
    return next(lot for lot in lots(len(house[0])) if not left_shut(house, lot))


def plainly_kept(house, lot):
    """Whether a lot is kept shut, word for word."""
    boxes, hand = house

    def out_of_reach(colour):
        outside = [box for box in range(len(boxes)) if box not in lot and colour in boxes[box][1]]
        return colour not in hand and not outside
    return len(lot) > 0 and all(any(out_of_reach(lock) for lock in boxes[box][0]) for box in lot)


def every_laying(boxes):
    """All layings of so many boxes."""
    return list(itertools.permutations(range(boxes)))


def random_laying(chance, boxes):
    """A laying of so many boxes."""
    return tuple(chance.sample(range(boxes), boxes))


def plain_rounds(laying):
    """The boxes of each round, found by joining each box to the one whose key lies in it."""
    root = list(range(len(laying)))
    for box, key in enumerate(laying):
        one, other = root[box], root[key]
        root = [one if each == other else each for each in root]
    return sorted(tuple(box for box in range(len(laying)) if root[box] == each) for each in set(root))


def laying_house(laying):
    """A laying written as a house: box by box a lock of its own and one key."""
    colour = names(len(laying))
    return tuple(((colour[box],), (colour[key],)) for box, key in enumerate(laying)), ()


def steps_from(laying):
    """How many exchanges lead at the fewest to each laying, found by going everywhere."""
    steps = {laying: 0}
    waiting = [laying]
    for here in waiting:
        for one, other in itertools.combinations(range(len(here)), 2):
            there = list(here)
            there[one], there[other] = here[other], here[one]
            if tuple(there) not in steps:
                steps[tuple(there)] = steps[here] + 1
                waiting.append(tuple(there))
    return steps


def nested(depth, make):
    """A thing with so many lists or tuples within one another."""
    thing = make(())
    for _ in range(depth - 1):
        thing = make((thing,))
    return thing


THINGS = [
    None, True, False, 0, 1, -1, 2, 10 ** 39, -(10 ** 39), "", "a", "red", " ", "~", "x" * 100,
    (), [], ((),), [()], ((), ()), [(), ()], ([], ()), ((), []), (None, None), (True, False),
    (0, 1), [0, 1], ("a", "b"), ["a", "b"], ("a",), (((), ()),), ((((), ()),),), (0,) * 100,
    ("a",) * 100, [None] * 100, nested(20, tuple), nested(20, list),
    (nested(19, tuple), ()), ((), nested(19, list)), ((nested(18, tuple),), ()),
]
NO_NUMBERS = [thing for thing in THINGS if not isinstance(thing, int)] + [True, False, "0", "1", (1,), [1], "-1"]
