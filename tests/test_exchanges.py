"""keyswithin.exchanges: point 10, and of point 2 what speaks of it."""

import copy
import itertools
import random
import unittest

from keyswithin.errors import NoLaying, NoNumber, NoRow, Unlike
from keyswithin.exchanges import behind, row_to, row_to_rounds
from tests.samples import (
    NO_NUMBERS, THINGS, every_laying, nested, plain_rounds, random_laying, steps_from,
)

WRONG_LAYINGS = [None, True, 0, "", "01", (), [], [0], (1,), (0, 0), (0, True), (-1, 0), (0, 2), tuple(range(31))]
# No exchanges between four boxes.
NO_EXCHANGES = [
    None, True, False, 0, 1, "", "01", (), (0,), (0, 1, 2), [0, 1], [], (1, 0), (0, 0), (3, 3), (3, 2), (-1, 0),
    (-2, -1), (0, 4), (3, 4), (4, 5), (0, 30), (0, True), (False, 1), (False, True), (None, 1), (0, None),
    ("0", "1"), (0, "1"), ((0,), (1,)), ([0], [1]), ((0, 1),), (0, 10 ** 39), (-(10 ** 39), 0),
    nested(19, tuple), nested(19, list),
]


def plainly_behind(laying, row):
    """The laying behind a row, each exchange written out anew."""
    for one, other in row:
        here = {one: laying[other], other: laying[one]}
        laying = tuple(here.get(box, key) for box, key in enumerate(laying))
    return laying


class Behind(unittest.TestCase):
    def test_no_exchange(self):
        self.assertEqual(behind((0,), []), (0,))
        self.assertEqual(behind((2, 0, 1), []), (2, 0, 1))
        self.assertEqual(behind(tuple(range(30)), []), tuple(range(30)))

    def test_one_exchange(self):
        self.assertEqual(behind((0, 1), [(0, 1)]), (1, 0))
        self.assertEqual(behind((2, 0, 1, 3), [(1, 2)]), (2, 1, 0, 3))
        self.assertEqual(behind((2, 0, 1, 3), [(0, 3)]), (3, 0, 1, 2))
        self.assertEqual(behind(tuple(range(30)), [(0, 29)]), (29,) + tuple(range(1, 29)) + (0,))

    def test_one_behind_the_other(self):
        self.assertEqual(behind((0, 1, 2), [(0, 1), (1, 2)]), (1, 2, 0))
        self.assertEqual(behind((0, 1, 2), [(1, 2), (0, 1)]), (2, 0, 1))
        self.assertEqual(behind((0, 1, 2), [(0, 1), (0, 1)]), (0, 1, 2))

    def test_at_most_60(self):
        self.assertEqual(behind((0, 1), [(0, 1)] * 59), (1, 0))
        self.assertEqual(behind((0, 1), [(0, 1)] * 60), (0, 1))
        for many in (61, 62, 100):
            self.assertRaises(NoRow, behind, (0, 1), [(0, 1)] * many)

    def test_drawn_rows(self):
        chance = random.Random(51)
        for _ in range(200):
            laying = random_laying(chance, chance.randint(2, 30))
            pairs = list(itertools.combinations(range(len(laying)), 2))
            row = [chance.choice(pairs) for _ in range(chance.randint(0, 60))]
            told = behind(laying, row)
            self.assertIs(type(told), tuple)
            self.assertEqual(told, plainly_behind(laying, row))

    def test_nothing_handed_in_is_changed(self):
        laying, row = (2, 0, 1), [(0, 1), (1, 2)]
        behind(laying, row)
        self.assertEqual((laying, row), ((2, 0, 1), [(0, 1), (1, 2)]))
        for thing in ([[0, 1]], [(0, 1), [1, 2]], [None]):
            before = copy.deepcopy(thing)
            self.assertRaises(NoRow, behind, laying, thing)
            self.assertEqual(thing, before)

    def test_no_list_is_refused(self):
        for thing in THINGS + [(), ((0, 1),), {}, (0, 1), "01"]:
            if thing != []:
                self.assertRaises(NoRow, behind, (0, 1, 2, 3), thing)

    def test_no_exchange_in_it_is_refused(self):
        for thing in NO_EXCHANGES:
            for row in ([thing], [thing, (0, 1)], [(0, 1), thing], [(2, 3)] * 59 + [thing]):
                self.assertRaises(NoRow, behind, (0, 1, 2, 3), row)

    def test_boxes_of_this_laying(self):
        for boxes in (1, 2, 3, 29, 30):
            laying = tuple(range(boxes))
            self.assertRaises(NoRow, behind, laying, [(0, boxes)])
            self.assertRaises(NoRow, behind, laying, [(boxes, boxes + 1)])
            for other in range(1, boxes):
                self.assertEqual(behind(laying, [(0, other)])[0], other)

    def test_no_laying_goes_ahead_of_no_row(self):
        for thing in WRONG_LAYINGS:
            for row in ([], [(0, 1)], None, [None], [(0, 1)] * 61):
                self.assertRaises(NoLaying, behind, thing, row)


class RowTo(unittest.TestCase):
    def hold(self, laying, other, fewest):
        """A row of the fewest exchanges is told, and it leads there."""
        told = row_to(laying, other)
        self.assertIs(type(told), list)
        self.assertEqual(behind(laying, told), other)
        self.assertEqual(plainly_behind(laying, told), other)
        self.assertEqual(len(told), fewest)

    def test_beside_all_rows(self):
        for boxes in range(1, 5):
            for laying in every_laying(boxes):
                steps = steps_from(laying)
                for other in every_laying(boxes):
                    self.hold(laying, other, steps[other])

    def test_beside_all_rows_of_some_of_6_boxes(self):
        for laying in ((0, 1, 2, 3, 4, 5), (3, 5, 1, 0, 2, 4)):
            steps = steps_from(laying)
            for other in every_laying(6):
                self.hold(laying, other, steps[other])

    def test_to_itself(self):
        chance = random.Random(52)
        for boxes in range(1, 31):
            laying = random_laying(chance, boxes)
            self.assertEqual(row_to(laying, laying), [])

    def test_30_boxes(self):
        chance = random.Random(53)
        for _ in range(200):
            laying, other = random_laying(chance, 30), random_laying(chance, 30)
            # Where a key lies, and where it is due: as many rings as there are, so many are saved.
            rings = plain_rounds(tuple(other.index(key) for key in laying))
            self.hold(laying, other, 30 - len(rings))
        plain = tuple(range(30))
        self.hold(plain, plain[1:] + (0,), 29)
        self.hold(plain[1:] + (0,), plain, 29)
        self.hold(plain, plain[::-1], 15)

    def test_the_list_is_the_askers_own(self):
        told = row_to((0, 1, 2), (0, 2, 1))
        told.append("mine")
        self.assertEqual(row_to((0, 1, 2), (0, 2, 1)), [(1, 2)])

    def test_unlike(self):
        for one, other in itertools.permutations((1, 2, 3, 29, 30), 2):
            self.assertRaises(Unlike, row_to, tuple(range(one)), tuple(range(other)))

    def test_refusals_in_the_order_of_the_arguments(self):
        for thing in WRONG_LAYINGS + [thing for thing in THINGS if thing != (0, 1)]:
            self.assertRaises(NoLaying, row_to, thing, (0,))
            self.assertRaises(NoLaying, row_to, thing, (0, 1))
            self.assertRaises(NoLaying, row_to, thing, None)
            self.assertRaises(NoLaying, row_to, thing, thing)
            # Of the second one too, whatever lengths they have.
            self.assertRaises(NoLaying, row_to, (0,), thing)
            self.assertRaises(NoLaying, row_to, (1, 0), thing)
            self.assertRaises(NoLaying, row_to, tuple(range(30)), thing)


class RowToRounds(unittest.TestCase):
    def hold(self, laying, many, fewest):
        """A row of the fewest exchanges is told, and it leads to so many rounds."""
        told = row_to_rounds(laying, many)
        self.assertIs(type(told), list)
        self.assertEqual(len(plain_rounds(behind(laying, told))), many)
        self.assertEqual(behind(laying, told), plainly_behind(laying, told))
        self.assertEqual(len(told), fewest)

    def test_beside_all_rows(self):
        for boxes in range(1, 6):
            for laying in every_laying(boxes):
                steps = steps_from(laying)
                for many in range(1, boxes + 1):
                    due = min(step for other, step in steps.items() if len(plain_rounds(other)) == many)
                    self.hold(laying, many, due)

    def test_as_it_is(self):
        chance = random.Random(54)
        for boxes in range(1, 31):
            laying = random_laying(chance, boxes)
            self.assertEqual(row_to_rounds(laying, len(plain_rounds(laying))), [])

    def test_30_boxes(self):
        chance = random.Random(55)
        plain = tuple(range(30))
        for laying in [plain, plain[1:] + (0,), plain[::-1]] + [random_laying(chance, 30) for _ in range(30)]:
            rings = len(plain_rounds(laying))
            for many in range(1, 31):
                # One exchange makes one round more or one fewer, so there are no fewer.
                self.hold(laying, many, abs(rings - many))

    def test_the_list_is_the_askers_own(self):
        told = row_to_rounds((0, 1, 2), 1)
        told.clear()
        self.hold((0, 1, 2), 1, 2)

    def test_no_number_is_refused(self):
        for thing in NO_NUMBERS:
            self.assertRaises(NoNumber, row_to_rounds, (0,), thing)
            self.assertRaises(NoNumber, row_to_rounds, (1, 2, 0), thing)
        for boxes in (1, 2, 29, 30):
            laying = tuple(range(boxes))
            for many in (0, -1, boxes + 1, 31, 10 ** 39, -(10 ** 39)):
                self.assertRaises(NoNumber, row_to_rounds, laying, many)

    def test_no_laying_goes_ahead_of_no_number(self):
        for thing in WRONG_LAYINGS + [thing for thing in THINGS if thing != (0, 1)]:
            for many in (1, 0, None, True):
                self.assertRaises(NoLaying, row_to_rounds, thing, many)


if __name__ == "__main__":
    unittest.main()
