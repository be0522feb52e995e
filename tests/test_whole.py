"""Point 3: what is promised over the whole program."""

import itertools
import random
import unittest

from keyswithin.breaking import fewest, is_kept, kept_lots, shut_with
from keyswithin.exchanges import behind, row_to, row_to_rounds
from keyswithin.houses import is_house, rounds, shut
from keyswithin.kept import Kept
from keyswithin.layings import is_laying, rounds_of, with_rounds
from tests.samples import (
    every_laying, large_houses, laying_house, lots, random_laying, small_houses, tiny_houses,
)


def all_small():
    return list(tiny_houses()) + list(small_houses(31, 150, 3)) + list(small_houses(32, 150, 1))


def with_key(keys, colour):
    return tuple(sorted(set(keys) | {colour}))


def better(house):
    """The houses with one key more, or a lock fewer."""
    boxes, hand = house
    colours = sorted({colour for locks, _ in boxes for colour in locks})
    for colour in colours:
        yield boxes, with_key(hand, colour)
        for at, (locks, keys) in enumerate(boxes):
            yield boxes[:at] + ((locks, with_key(keys, colour)),) + boxes[at + 1:], hand
    for at, (locks, keys) in enumerate(boxes):
        for gone in locks:
            less = tuple(lock for lock in locks if lock != gone)
            yield boxes[:at] + ((less, keys),) + boxes[at + 1:], hand


def some_layings():
    """All layings of few boxes, and some drawn ones of up to 30."""
    chance = random.Random(39)
    few = [laying for boxes in range(1, 6) for laying in every_laying(boxes)]
    return few + [random_laying(chance, chance.randint(6, 30)) for _ in range(40)]


def pairs(laying):
    """All exchanges between the boxes of a laying."""
    return itertools.combinations(range(len(laying)), 2)


class Whole(unittest.TestCase):
    def test_one_key_more_or_a_lock_fewer_shuts_nothing(self):
        for house in all_small():
            before = set(shut(house))
            for other in better(house):
                self.assertTrue(is_house(other))
                self.assertLessEqual(set(shut(other)), before)
                self.assertLessEqual(len(fewest(other)), len(fewest(house)))

    def test_what_stays_shut_is_a_lot_kept_shut(self):
        for house in all_small() + list(large_houses(33, 40, 1)) + list(large_houses(34, 40, 3)):
            left = shut(house)
            self.assertIs(is_kept(house, left), len(left) > 0)

    def test_a_kept_lot_stays_shut_till_one_of_it_is_broken(self):
        for house in list(tiny_houses()) + list(small_houses(35, 40, 3)):
            every = lots(len(house[0]))
            for lot in every:
                if not is_kept(house, lot):
                    continue
                self.assertFalse(set(lot) & {box for ready in rounds(house) for box in ready})
                for broken in every:
                    if not set(broken) & set(lot):
                        self.assertLessEqual(set(lot), set(shut_with(house, broken)))

    def test_no_fewer_boxes_than_told_open_all(self):
        for house in all_small():
            told = fewest(house)
            self.assertEqual(shut_with(house, told), ())
            for lot in lots(len(house[0])):
                if len(lot) < len(told):
                    self.assertNotEqual(shut_with(house, lot), ())

    def test_told_lots_show_it(self):
        for house in list(small_houses(36, 150, 1)) + list(large_houses(37, 40, 1)):
            told = fewest(house)
            apart = kept_lots(house)
            self.assertEqual(len(apart), len(told))
            for lot in apart:
                self.assertIs(is_kept(house, lot), True)
                self.assertEqual(len(set(lot) & set(told)), 1)

    def test_the_same_asked_again_is_answered_the_same(self):
        for house in list(small_houses(38, 30, 1)):
            for ask in (rounds, shut, fewest, kept_lots):
                self.assertEqual(ask(house), ask(house))
        for laying in some_layings():
            other = laying[::-1]
            self.assertEqual(rounds_of(laying), rounds_of(laying))
            self.assertEqual(row_to(laying, other), row_to(laying, other))
            self.assertEqual(row_to_rounds(laying, len(laying)), row_to_rounds(laying, len(laying)))


class WholeOfLayings(unittest.TestCase):
    def test_an_exchange_makes_one_round_more_or_one_fewer(self):
        for laying in some_layings():
            before = len(rounds_of(laying))
            for pair in pairs(laying):
                after = behind(laying, [pair])
                self.assertTrue(is_laying(after))
                self.assertEqual(abs(len(rounds_of(after)) - before), 1)

    def test_as_many_are_to_be_broken_as_there_are_rounds(self):
        for laying in some_layings():
            house = laying_house(laying)
            told = rounds_of(laying)
            self.assertEqual(len(fewest(house)), len(told))
            self.assertEqual(fewest(house), tuple(row[0] for row in told))
            self.assertEqual(kept_lots(house), [tuple(sorted(row)) for row in told])

    def test_an_exchange_makes_one_more_or_one_fewer_to_be_broken(self):
        for laying in some_layings():
            before = len(fewest(laying_house(laying)))
            for pair in list(pairs(laying))[:20]:
                after = len(fewest(laying_house(behind(laying, [pair]))))
                self.assertEqual(abs(after - before), 1)

    def test_so_many_ways_want_just_so_many_broken(self):
        for boxes in range(1, 6):
            wanted = [len(fewest(laying_house(laying))) for laying in every_laying(boxes)]
            for many in range(boxes + 2):
                self.assertEqual(with_rounds(boxes, many), wanted.count(many))

    def test_no_fewer_exchanges_lead_from_one_laying_to_another(self):
        # One exchange ahead of the told row, or one behind it, and one is saved at most.
        for boxes in range(1, 5):
            for laying, other in itertools.product(every_laying(boxes), repeat=2):
                told = len(row_to(laying, other))
                self.assertEqual(told == 0, laying == other)
                for pair in pairs(laying):
                    self.assertEqual(abs(len(row_to(behind(laying, [pair]), other)) - told), 1)
                    self.assertEqual(abs(len(row_to(laying, behind(other, [pair]))) - told), 1)

    def test_no_fewer_exchanges_lead_to_so_many_rounds(self):
        for laying in some_layings():
            here = len(rounds_of(laying))
            for many in range(1, len(laying) + 1):
                row = row_to_rounds(laying, many)
                self.assertEqual(len(rounds_of(behind(laying, row))), many)
                self.assertEqual(len(row), abs(here - many))


class WholeOfKept(unittest.TestCase):
    def open_by_rounds(self, kept, told, chance):
        """Open the boxes of each round in any order."""
        for ready in told:
            for box in chance.sample(ready, len(ready)):
                kept.open_box(box)

    def test_opened_by_rounds(self):
        chance = random.Random(40)
        for house in all_small() + list(large_houses(41, 20, 1)) + list(large_houses(42, 20, 3)):
            left = shut(house)
            for _ in range(3):
                kept = Kept(house)
                self.open_by_rounds(kept, rounds(house), chance)
                self.assertEqual(kept.opened(), tuple(box for box in range(len(house[0])) if box not in left))
                self.assertIs(kept.can_all(), left == ())
                self.assertEqual(kept.broken(), ())

    def test_breaking_the_fewest_all_can_be_opened(self):
        chance = random.Random(43)
        for house in all_small() + list(large_houses(44, 20, 1)):
            told = fewest(house)
            kept = Kept(house)
            self.assertIs(kept.can_all(), told == ())
            for at, box in enumerate(chance.sample(told, len(told))):
                self.assertEqual(len(kept), at)
                kept.break_box(box)
                self.assertIs(kept.can_all(), at + 1 == len(told))
            while len(kept) < len(house[0]):
                left = [box for box in range(len(house[0])) if box not in kept.opened()]
                ready = [box for box in left if set(house[0][box][0]) <= set(kept.hand())]
                self.open_by_rounds(kept, [ready[:1]], chance)
            self.assertEqual(kept.broken(), told)


if __name__ == "__main__":
    unittest.main()
