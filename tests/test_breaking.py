"""keyswithin.breaking: points 6 and 7, and of point 2 what speaks of them."""

import random
import unittest

from keyswithin.breaking import fewest, is_kept, kept_lots, shut_with
from keyswithin.errors import Locks, NoBoxes, NoHouse, TooMany
from tests.samples import (
    THINGS, first_fewest, large_houses, left_shut, lots, names, plainly_kept, random_house, ring_house,
    small_houses, tiny_houses,
)

PLAIN = ((), ())
# Three boxes in a ring, and a fourth that opens by itself.
RING = (((("a",), ("b",)), (("b",), ("c",)), (("c",), ("a",)), ((), ("d",))), ())
# The house that is asked of all its lots, one by one.
MUCH_ASKED = ((("amber", "blue", "cyan"), ("d", "e", "f", "g", "h", "i")),) * 8
TWO_LOCKS = (((("a", "b"), ()), ((), ("a",)), ((), ("b",))), ())
NO_BOXES = [
    None, True, False, 0, 1, "", "0", [], [0], [0, 1], (1, 0), (0, 0), (0, 1, 1), (0, 2, 1), (-1,), (-1, 0), (4,),
    (0, 4), (30,), (True,), (False,), (False, 1), (0, True), (None,), ("0",), (0, "1"), ((0,),), ([0],), ((),),
    (0, (1,)), (10 ** 39,), (-(10 ** 39),), (0,) * 100, tuple(range(100)),
]


def single(houses):
    """Those houses whose boxes have one lock at most."""
    return [house for house in houses if all(len(locks) <= 1 for locks, _ in house[0])]


def shuffled_rings(seed):
    """Thirty boxes in rings of all sizes, the boxes in any order."""
    chance = random.Random(seed)
    boxes = list(range(30))
    chance.shuffle(boxes)
    rings = []
    while boxes:
        size = chance.randint(1, min(8, len(boxes)))
        rings.append(boxes[:size])
        boxes = boxes[size:]
    return rings


class Fewest(unittest.TestCase):
    def test_nothing_to_be_broken(self):
        self.assertEqual(fewest(((PLAIN,), ())), ())
        self.assertEqual(fewest(((PLAIN,) * 30, ())), ())
        self.assertEqual(fewest(TWO_LOCKS), ())

    def test_the_first_of_as_few(self):
        self.assertEqual(fewest(RING), (0,))
        self.assertEqual(fewest((RING[0], ("b",))), ())
        chain = (((("a",), ()), (("b",), ("a",)), (("c",), ("b",))), ())
        self.assertEqual(fewest(chain), (2,))

    def test_its_own_key_within_is_no_way_in(self):
        self.assertEqual(fewest((((("a",), ("a",)), (("a",), ())), ())), (0,))
        self.assertEqual(fewest((((("a",), ()), (("a",), ("a",))), ())), (1,))

    def test_locks_without_any_key(self):
        self.assertEqual(fewest((((("a",), ()), (("a",), ()), (("b",), ())), ())), (0, 1, 2))
        self.assertEqual(fewest((((("a", "b"), ()), (("a",), ()), (("b",), ())), ())), (0, 1, 2))

    def test_broken_boxes_of_several_locks_give_their_keys(self):
        house = (((("a", "b"), ()), (("x", "y"), ("a",)), (("x", "y"), ("a", "b"))), ())
        self.assertEqual(fewest(house), (1, 2))
        house = (((("a", "b"), ("x", "y")), (("x", "y"), ("a", "b")), (("a", "x"), ())), ())
        self.assertEqual(fewest(house), (0,))
        house = (((("z",), ()), (("a", "b"), ("c",)), (("c", "d"), ("a",)), (("d",), ("b", "z")), (("b",), ("d",))), ())
        self.assertEqual(fewest(house), (1, 3))

    def test_beside_all_lots(self):
        houses = list(tiny_houses()) + list(small_houses(11, 400, 3)) + list(small_houses(12, 400, 1))
        for house in houses:
            self.assertEqual(fewest(house), first_fewest(house), house)

    def test_rings_of_30_boxes(self):
        for seed in range(30):
            rings = shuffled_rings(seed)
            self.assertEqual(fewest(ring_house(rings)), tuple(sorted(min(ring) for ring in rings)))

    def test_30_boxes_one_lock_each(self):
        for house in large_houses(13, 60, 1):
            told = fewest(house)
            self.assertEqual(left_shut(house, told), ())
            # As many lots kept shut, with no box in common, show that no fewer do.
            apart = kept_lots(house)
            self.assertTrue(all(plainly_kept(house, lot) for lot in apart))
            self.assertEqual(len(set().union(*apart)), sum(len(lot) for lot in apart))
            self.assertEqual(told, tuple(sorted(min(lot) for lot in apart)))

    def test_ten_boxes_of_several_locks(self):
        colour = names(11)
        boxes = tuple(((colour[at], colour[10]), (colour[(at + 1) % 10],)) for at in range(10))
        self.assertEqual(fewest((boxes, ())), tuple(range(10)))
        self.assertEqual(fewest((boxes, (colour[10],))), (0,))
        last = boxes[:9] + ((boxes[9][0], (colour[0], colour[10])),)
        self.assertEqual(fewest((last, ())), (9,))

    def test_ten_boxes_beside_all_lots(self):
        chance = random.Random(14)
        for _ in range(12):
            colours = names(5)
            boxes = tuple(
                (tuple(sorted(chance.sample(colours, chance.randint(1, 3)))), (chance.choice(colours),))
                for _ in range(10)
            )
            house = ((((colours[0], colours[1]), ()),) + boxes[1:], ())
            self.assertEqual(fewest(house), first_fewest(house), house)

    def test_too_many_boxes_of_several_locks(self):
        for many in (11, 12, 30):
            for locks in (("a", "b"), ("a", "b", "c")):
                for place in (0, many - 1):
                    boxes = [PLAIN] * many
                    boxes[place] = (locks, ())
                    for hand in ((), ("a", "b", "c")):
                        with self.assertRaises(TooMany) as caught:
                            fewest((tuple(boxes), hand))
                        self.assertEqual(caught.exception.most, 10)
        self.assertEqual(fewest(((PLAIN,) * 9 + ((("a", "b"), ()),), ())), (9,))
        self.assertEqual(fewest(((PLAIN,) * 10 + ((("a",), ()),), ())), (10,))

    def test_no_house_is_refused(self):
        for thing in THINGS + [((PLAIN,) * 31, ()), (((("b", "a"), ()),) * 11, ())]:
            self.assertRaises(NoHouse, fewest, thing)


class ShutWith(unittest.TestCase):
    def test_nothing_broken(self):
        self.assertEqual(shut_with(RING, ()), (0, 1, 2))

    def test_one_of_a_ring(self):
        for box in (0, 1, 2):
            self.assertEqual(shut_with(RING, (box,)), ())
        self.assertEqual(shut_with(RING, (3,)), (0, 1, 2))

    def test_a_broken_box_is_not_shut_and_gives_its_keys(self):
        house = (((("a", "b", "c"), ("d",)), (("d",), ("e",)), (("e", "f"), ())), ())
        self.assertEqual(shut_with(house, (0,)), (2,))
        self.assertEqual(shut_with(house, (1,)), (0, 2))
        self.assertEqual(shut_with(house, (0, 2)), ())
        self.assertEqual(shut_with(house, (0, 1, 2)), ())

    def test_more_than_ten_boxes_of_several_locks(self):
        boxes = ((("a", "b"), ("b",)),) * 29 + ((("c",), ("a",)),)
        self.assertEqual(shut_with((boxes, ()), (29,)), tuple(range(29)))
        self.assertEqual(shut_with((boxes, ()), (5, 29)), ())

    def test_beside_all_lots(self):
        for house in list(tiny_houses()) + list(small_houses(15, 80, 3)):
            for lot in lots(len(house[0])):
                self.assertEqual(shut_with(house, lot), left_shut(house, lot))

    def test_no_boxes_is_refused(self):
        for thing in NO_BOXES:
            self.assertRaises(NoBoxes, shut_with, RING, thing)
        for thing in THINGS:
            if thing not in ((), (0, 1)):
                self.assertRaises(NoBoxes, shut_with, RING, thing)

    def test_boxes_of_this_house(self):
        for many in (1, 2, 29, 30):
            house = ((PLAIN,) * many, ())
            self.assertEqual(shut_with(house, tuple(range(many))), ())
            self.assertRaises(NoBoxes, shut_with, house, (many,))
            self.assertRaises(NoBoxes, shut_with, house, tuple(range(many + 1)))

    def test_no_house_goes_ahead_of_no_boxes(self):
        for thing in THINGS:
            self.assertRaises(NoHouse, shut_with, thing, ())
            self.assertRaises(NoHouse, shut_with, thing, None)


class IsKept(unittest.TestCase):
    def test_a_ring(self):
        told = [lot for lot in lots(4) if is_kept(RING, lot)]
        self.assertEqual(told, [(0, 1, 2)])

    def test_a_key_in_the_hand_or_outside(self):
        house = (((("a",), ()), (("b",), ("a",)), (("b",), ("c",))), ())
        self.assertIs(is_kept(house, (0,)), False)
        self.assertIs(is_kept(house, (1,)), True)
        self.assertIs(is_kept(house, (0, 1)), True)
        self.assertIs(is_kept(house, (0, 1, 2)), True)
        self.assertIs(is_kept((house[0], ("b",)), (1,)), False)
        self.assertIs(is_kept((house[0], ("a",)), (0, 1)), False)

    def test_some_lock_is_enough(self):
        house = (((("a", "b"), ()), (("c",), ())), ("a",))
        self.assertIs(is_kept(house, (0,)), True)
        self.assertIs(is_kept((house[0], ("a", "b")), (0,)), False)

    def test_a_box_without_locks_is_in_none(self):
        self.assertIs(is_kept(((PLAIN,), ()), (0,)), False)
        self.assertIs(is_kept(((PLAIN, (("a",), ())), ()), (0, 1)), False)

    def test_beside_all_lots(self):
        for house in list(tiny_houses()) + list(small_houses(16, 80, 3)) + list(small_houses(17, 80, 1)):
            for lot in lots(len(house[0])):
                self.assertIs(is_kept(house, lot), plainly_kept(house, lot))

    def test_of_anything(self):
        stuck = (((("a",), ()),) * 4, ())
        self.assertIs(is_kept(stuck, (0, 1, 2, 3)), True)
        self.assertIs(is_kept(stuck, (0,)), True)
        self.assertIs(is_kept(stuck, (3,)), True)
        for thing in NO_BOXES + [()]:
            self.assertIs(is_kept(stuck, thing), False, repr(thing))
        for thing in THINGS:
            if thing != (0, 1):
                self.assertIs(is_kept(stuck, thing), False, repr(thing))

    def test_no_house_is_refused(self):
        for thing in THINGS:
            self.assertRaises(NoHouse, is_kept, thing, (0,))
            self.assertRaises(NoHouse, is_kept, thing, None)


class AllLots(unittest.TestCase):
    def hold(self, house):
        """Ask of all lots of eight boxes, and each time of what is no house, too."""
        self.assertEqual(len(lots(8)), 256)
        no_houses = [list(house), (list(house[0]), house[1]), (house[0], list(house[1])), (house[0][:7] + ((),), ())]
        for at, lot in enumerate(lots(8)):
            self.assertIs(is_kept(house, lot), plainly_kept(house, lot))
            self.assertEqual(shut_with(house, lot), left_shut(house, lot))
            self.assertRaises(NoHouse, is_kept, no_houses[at % 4], lot)
            self.assertRaises(NoHouse, shut_with, no_houses[at % 4], lot)
            self.assertRaises(NoBoxes, shut_with, house, list(lot))
            self.assertIs(is_kept(house, list(lot)), False)

    def test_all_keys_in_the_hand(self):
        house = (MUCH_ASKED, ("amber", "blue", "cyan"))
        self.hold(house)
        self.assertEqual([lot for lot in lots(8) if is_kept(house, lot)], [])
        self.assertEqual({shut_with(house, lot) for lot in lots(8)}, {()})

    def test_some_keys_in_the_hand(self):
        for hand in ((), ("amber",), ("amber", "cyan")):
            house = (MUCH_ASKED, hand)
            self.hold(house)
            self.assertEqual([lot for lot in lots(8) if is_kept(house, lot)], lots(8)[1:])
            self.assertEqual(shut_with(house, (0, 3, 7)), (1, 2, 4, 5, 6))

    def test_a_key_in_one_of_the_boxes(self):
        self.hold((MUCH_ASKED[:5] + ((("amber", "d"), ("blue", "cyan")),) + MUCH_ASKED[6:], ("amber",)))

    def test_drawn_houses(self):
        chance = random.Random(20)
        for _ in range(12):
            self.hold(random_house(chance, 8, names(chance.randint(4, 12)), 3, 3, 2))


class KeptLots(unittest.TestCase):
    def hold(self, house):
        """All that is promised of the lots, held against the plain reckoning."""
        told = kept_lots(house)
        self.assertIs(type(told), list)
        self.assertEqual(told, sorted(set(told)))
        self.assertEqual(len(told), len(fewest(house)))
        self.assertEqual(len(set().union(*told)), sum(len(lot) for lot in told))
        for lot in told:
            self.assertTrue(plainly_kept(house, lot))
            # Were a lesser lot kept shut, it would be so without one box at least.
            for box in lot:
                self.assertEqual(self.stuck_within(house, [at for at in lot if at != box]), [])

    def stuck_within(self, house, some):
        """The greatest lot of some boxes that is kept shut, where all others are broken."""
        others = tuple(box for box in range(len(house[0])) if box not in some)
        return list(left_shut(house, others))

    def test_told_ones(self):
        self.assertEqual(kept_lots(RING), [(0, 1, 2)])
        self.assertEqual(kept_lots((RING[0], ("a",))), [])
        self.assertEqual(kept_lots(((PLAIN,), ())), [])
        house = (((("a",), ()), (("b",), ("a",)), (("c",), ()), (("a",), ("b",))), ())
        self.assertEqual(kept_lots(house), [(1, 3), (2,)])

    def test_a_key_in_several_boxes(self):
        house = (((("a",), ("b",)), (("b",), ("a",)), (("c",), ("a", "c")), (("a",), ())), ())
        self.assertEqual(kept_lots(house), [(2,)])
        house = (((("a",), ("b",)), (("b",), ("a",)), (("b",), ("a",)), (("a",), ())), ())
        self.assertEqual(kept_lots(house), [(0, 1, 2)])

    def test_small_houses(self):
        for house in single(tiny_houses()) + list(small_houses(18, 300, 1)):
            self.hold(house)
            told = kept_lots(house)
            self.assertEqual(len(told), len(first_fewest(house)))
            kept = [lot for lot in lots(len(house[0])) if plainly_kept(house, lot)]
            for lot in told:
                self.assertEqual([other for other in kept if set(other) <= set(lot)], [lot])

    def test_houses_of_30_boxes(self):
        for house in large_houses(19, 60, 1):
            self.hold(house)
        for seed in range(30):
            rings = shuffled_rings(seed)
            self.assertEqual(kept_lots(ring_house(rings)), sorted(tuple(sorted(ring)) for ring in rings))
        self.assertEqual(kept_lots((((("a",), ()),) * 30, ())), [(box,) for box in range(30)])
        self.assertEqual(kept_lots((((("a",), ("a",)),) * 30, ())), [tuple(range(30))])

    def test_the_list_is_the_askers_own(self):
        told = kept_lots(RING)
        told.append("mine")
        self.assertEqual(kept_lots(RING), [(0, 1, 2)])

    def test_more_than_one_lock_is_refused(self):
        for locks in (("a", "b"), ("a", "b", "c")):
            for many in (1, 10, 30):
                for place in (0, many - 1):
                    boxes = [PLAIN] * many
                    boxes[place] = (locks, ())
                    self.assertRaises(Locks, kept_lots, (tuple(boxes), ()))
                    self.assertRaises(Locks, kept_lots, (tuple(boxes), ("a", "b", "c")))

    def test_no_house_is_refused(self):
        for thing in THINGS + [(((("b", "a"), ()),), ())]:
            self.assertRaises(NoHouse, kept_lots, thing)


if __name__ == "__main__":
    unittest.main()
