"""Point 3, as far as it speaks of boxes, lots and the fewest to be broken."""

import unittest

from keyswithin.breaking import fewest, is_kept, kept_lots, shut_with
from keyswithin.houses import is_house, rounds, shut
from tests.samples import large_houses, lots, small_houses, tiny_houses


def all_small():
    return list(tiny_houses()) + list(small_houses(31, 150, 3)) + list(small_houses(32, 150, 1))


def with_key(keys, colour):
    return tuple(sorted(set(keys) | {colour}))


def better(house):
    """The houses with one key more, or a lock fewer."""
    boxes, hand = house
    colours = sorted({colour for locks, _ in boxes for colour in locks})
    for colour in colours:
        yield boxes, with_key(hand, colour)
        for at, (locks, keys) in enumerate(boxes):
            yield boxes[:at] + ((locks, with_key(keys, colour)),) + boxes[at + 1:], hand
    for at, (locks, keys) in enumerate(boxes):
        for gone in locks:
            less = tuple(lock for lock in locks if lock != gone)
            yield boxes[:at] + ((less, keys),) + boxes[at + 1:], hand


class Whole(unittest.TestCase):
    def test_one_key_more_or_a_lock_fewer_shuts_nothing(self):
        for house in all_small():
            before = set(shut(house))
            for other in better(house):
                self.assertTrue(is_house(other))
                self.assertLessEqual(set(shut(other)), before)
                self.assertLessEqual(len(fewest(other)), len(fewest(house)))

    def test_what_stays_shut_is_a_lot_kept_shut(self):
        for house in all_small() + list(large_houses(33, 40, 1)) + list(large_houses(34, 40, 3)):
            left = shut(house)
            self.assertIs(is_kept(house, left), len(left) > 0)

    def test_a_kept_lot_stays_shut_till_one_of_it_is_broken(self):
        for house in list(tiny_houses()) + list(small_houses(35, 40, 3)):
            every = lots(len(house[0]))
            for lot in every:
                if not is_kept(house, lot):
                    continue
                self.assertFalse(set(lot) & {box for ready in rounds(house) for box in ready})
                for broken in every:
                    if not set(broken) & set(lot):
                        self.assertLessEqual(set(lot), set(shut_with(house, broken)))

    def test_no_fewer_boxes_than_told_open_all(self):
        for house in all_small():
            told = fewest(house)
            self.assertEqual(shut_with(house, told), ())
            for lot in lots(len(house[0])):
                if len(lot) < len(told):
                    self.assertNotEqual(shut_with(house, lot), ())

    def test_told_lots_show_it(self):
        for house in list(small_houses(36, 150, 1)) + list(large_houses(37, 40, 1)):
            told = fewest(house)
            apart = kept_lots(house)
            self.assertEqual(len(apart), len(told))
            for lot in apart:
                self.assertIs(is_kept(house, lot), True)
                self.assertEqual(len(set(lot) & set(told)), 1)

    def test_the_same_asked_again_is_answered_the_same(self):
        for house in list(small_houses(38, 30, 1)):
            for ask in (rounds, shut, fewest, kept_lots):
                self.assertEqual(ask(house), ask(house))


if __name__ == "__main__":
    unittest.main()
