"""keyswithin.layings: points 8 and 9, and of point 2 what speaks of them."""

import itertools
import math
import random
import unittest

from keyswithin.errors import NoLaying, NoNumber
from keyswithin.layings import is_laying, rounds_of, together, with_rounds, with_size
from tests.samples import NO_NUMBERS, THINGS, every_laying, nested, random_laying

NO_LAYINGS = [thing for thing in THINGS if thing != (0, 1)] + [
    (1,), (-1,), (30,), (True,), (False,), (None,), ("0",), ((0,),), ([0],), [0], [0, 1], [1, 0], "01", "0",
    (0, 0), (1, 1), (0, 2), (1, 2), (-1, 0), (-1, 0, 1), (0, 1, 1), (0, 1, 3), (0, 2, 2), (1, 2, 3),
    (False, 1), (0, True), (False, True), (0, True, 2), (2, True, False), (0, None), (0, "1"), (0, (1,)),
    (0, 10 ** 39), (-(10 ** 39), 0), (0, 1, [2]), (0, nested(19, tuple)), (nested(19, list), 0),
    tuple(range(31)), tuple(range(32)), tuple(range(100)), tuple(range(1, 31)), tuple(range(29)) + (28,),
    tuple(range(29)) + (30,), (False,) + tuple(range(1, 30)), list(range(30)), tuple(range(-1, 29)),
]


class IsLaying(unittest.TestCase):
    def test_all_of_few_boxes(self):
        for boxes in (1, 2, 3):
            for row in itertools.product(range(-1, 4), repeat=boxes):
                self.assertIs(is_laying(row), sorted(row) == list(range(boxes)), row)

    def test_1_to_30_boxes(self):
        for boxes in range(1, 31):
            self.assertIs(is_laying(tuple(range(boxes))), True)
            self.assertIs(is_laying(tuple(reversed(range(boxes)))), True)
        for boxes in (0, 31, 32, 100):
            self.assertIs(is_laying(tuple(range(boxes))), False)
            self.assertIs(is_laying(tuple(reversed(range(boxes)))), False)

    def test_drawn_ones(self):
        chance = random.Random(41)
        for _ in range(100):
            laying = random_laying(chance, chance.randint(2, 30))
            self.assertIs(is_laying(laying), True)
            self.assertIs(is_laying(list(laying)), False)
            place = chance.randrange(len(laying))
            for wrong in (laying[place - 1], len(laying), -1, None, str(laying[place]), [laying[place]]):
                self.assertIs(is_laying(laying[:place] + (wrong,) + laying[place + 1:]), False)
            self.assertIs(is_laying(laying[:place] + laying[place + 1:] + (len(laying),)), False)

    def test_a_truth_is_no_number(self):
        for laying in ((0, 1), (1, 0), (2, 0, 1)):
            for place, box in enumerate(laying):
                if box < 2:
                    self.assertIs(is_laying(laying[:place] + (bool(box),) + laying[place + 1:]), False)

    def test_of_anything(self):
        self.assertIs(is_laying((0, 1)), True)
        for thing in NO_LAYINGS:
            self.assertIs(is_laying(thing), False, repr(thing))


class RoundsOf(unittest.TestCase):
    def hold(self, laying):
        """All that is promised of the rounds of a laying."""
        told = rounds_of(laying)
        self.assertIs(type(told), list)
        self.assertEqual(told, sorted(told))
        self.assertEqual(sorted(box for row in told for box in row), list(range(len(laying))))
        for row in told:
            self.assertIs(type(row), tuple)
            self.assertEqual(row[0], min(row))
            for at, box in enumerate(row):
                self.assertEqual(laying[box], row[(at + 1) % len(row)])

    def test_told_ones(self):
        self.assertEqual(rounds_of((0,)), [(0,)])
        self.assertEqual(rounds_of((0, 1)), [(0,), (1,)])
        self.assertEqual(rounds_of((1, 0)), [(0, 1)])
        self.assertEqual(rounds_of((1, 2, 0)), [(0, 1, 2)])
        self.assertEqual(rounds_of((2, 0, 1)), [(0, 2, 1)])
        self.assertEqual(rounds_of((3, 4, 2, 1, 0)), [(0, 3, 1, 4), (2,)])
        self.assertEqual(rounds_of((5, 1, 4, 0, 2, 3)), [(0, 5, 3), (1,), (2, 4)])

    def test_30_boxes_in_one_round_or_each_in_its_own(self):
        self.assertEqual(rounds_of(tuple(range(30))), [(box,) for box in range(30)])
        self.assertEqual(rounds_of(tuple(range(1, 30)) + (0,)), [tuple(range(30))])
        self.assertEqual(rounds_of((29,) + tuple(range(29))), [(0,) + tuple(range(29, 0, -1))])

    def test_word_for_word(self):
        for boxes in range(1, 7):
            for laying in every_laying(boxes):
                self.hold(laying)
        chance = random.Random(42)
        for _ in range(200):
            self.hold(random_laying(chance, 30))

    def test_the_list_is_the_askers_own(self):
        laying = (1, 0, 2)
        told = rounds_of(laying)
        told.append("mine")
        told[0] = None
        self.assertEqual(rounds_of(laying), [(0, 1), (2,)])
        self.assertEqual(laying, (1, 0, 2))

    def test_no_laying_is_refused(self):
        for thing in NO_LAYINGS:
            self.assertRaises(NoLaying, rounds_of, thing)


class Counts(unittest.TestCase):
    def test_no_boxes(self):
        self.assertEqual([with_rounds(0, many) for many in (-1, 0, 1, 2)], [0, 1, 0, 0])
        self.assertRaises(NoNumber, with_size, 0, 0)
        self.assertRaises(NoNumber, with_size, 0, 1)
        self.assertRaises(NoNumber, together, 0, 0)
        self.assertRaises(NoNumber, together, 0, 1)

    def test_one_box(self):
        self.assertEqual([with_rounds(1, many) for many in (-1, 0, 1, 2)], [0, 0, 1, 0])
        self.assertEqual([with_size(1, many) for many in (-1, 0, 1, 2)], [0, 0, 1, 0])
        self.assertEqual(together(1, 1), 1)

    def test_beside_all_layings(self):
        for boxes in range(1, 7):
            every = [rounds_of(laying) for laying in every_laying(boxes)]
            for many in range(-2, boxes + 3):
                self.assertEqual(with_rounds(boxes, many), sum(len(told) == many for told in every))
                self.assertEqual(with_size(boxes, many), sum(len(told[0]) == many for told in every))
            for many in range(1, boxes + 1):
                first = set(range(many))
                self.assertEqual(together(boxes, many), sum(first <= set(told[0]) for told in every))

    def test_numbers_beyond_all(self):
        for boxes in (1, 5, 30, 31, 40):
            for many in (-1, -2, -(10 ** 39), boxes + 1, boxes + 2, 41, 10 ** 39):
                self.assertEqual(with_rounds(boxes, many), 0)
                self.assertEqual(with_size(boxes, many), 0)
            self.assertEqual(with_rounds(boxes, 0), 0)
            self.assertEqual(with_size(boxes, 0), 0)

    def test_all_layings_together(self):
        for boxes in range(1, 41):
            every = math.factorial(boxes)
            self.assertEqual(sum(with_rounds(boxes, many) for many in range(boxes + 1)), every)
            self.assertEqual(sum(with_size(boxes, many) for many in range(boxes + 1)), every)
            self.assertEqual(together(boxes, 1), every)
            self.assertEqual(together(boxes, boxes), with_rounds(boxes, 1))
            self.assertEqual(together(boxes, boxes), with_size(boxes, boxes))
            self.assertEqual(with_rounds(boxes, boxes), 1)

    def test_rounds_one_box_more(self):
        # The new box alone, or right behind any of those before.
        for boxes in range(40):
            for many in range(boxes + 2):
                due = with_rounds(boxes, many - 1) + boxes * with_rounds(boxes, many)
                self.assertEqual(with_rounds(boxes + 1, many), due)

    def test_two_boxes_of_40(self):
        # Two given boxes share a round in half of all layings, three in a third.
        self.assertEqual(together(40, 2) * 2, math.factorial(40))
        self.assertEqual(together(40, 3) * 3, math.factorial(40))
        self.assertEqual(with_size(40, 17) * 40, math.factorial(40))
        self.assertEqual(with_rounds(40, 39), 40 * 39 // 2)

    def test_numbers_told_are_whole(self):
        for told in (with_rounds(6, 2), with_rounds(6, 9), with_size(6, 2), with_size(6, 9), together(6, 4)):
            self.assertIs(type(told), int)

    def test_no_number_of_boxes(self):
        for thing in NO_NUMBERS:
            for count in (with_rounds, with_size, together):
                self.assertRaises(NoNumber, count, thing, 1)
                self.assertRaises(NoNumber, count, thing, None)
        for thing in (-1, 41, 42, 10 ** 39, -(10 ** 39)):
            for count in (with_rounds, with_size, together):
                self.assertRaises(NoNumber, count, thing, 1)
                self.assertRaises(NoNumber, count, thing, 0)

    def test_no_number_of_many(self):
        for thing in NO_NUMBERS:
            for count in (with_rounds, with_size, together):
                for boxes in (1, 2, 40):
                    self.assertRaises(NoNumber, count, boxes, thing)
            self.assertRaises(NoNumber, with_rounds, 0, thing)

    def test_together_takes_1_to_all(self):
        for boxes in (1, 2, 30, 31, 40):
            for many in range(1, boxes + 1):
                self.assertGreater(together(boxes, many), 0)
            for many in (0, -1, boxes + 1, 41, 10 ** 39, -(10 ** 39)):
                self.assertRaises(NoNumber, together, boxes, many)


if __name__ == "__main__":
    unittest.main()
