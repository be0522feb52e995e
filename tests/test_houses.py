"""keyswithin.houses: points 4 and 5, and of point 2 what speaks of them."""

import copy
import random
import unittest

from keyswithin.errors import NoColour, NoHouse
from keyswithin.houses import is_house, lost, rounds, shut
from tests.samples import (
    THINGS, large_houses, left_shut, names, nested, plainly_house, random_house, small_houses, tiny_houses,
)

PLAIN = ((), ())
NO_COLOURS = [
    "", "A", "Red", "red ", " red", "r d", "re-d", "red1", "1", "_", "`", "{", "a\n", "\u00e9", "\u00df",
    "abcdefghi", "x" * 100, 0, 1, None, True, False, ("red",), ["red"], (), [], nested(20, list),
]


ODD = THINGS + NO_COLOURS + ["abcdefgh", "z", ((), ()), (("a",), ("b",)), names(3), names(4), names(6), names(7)]


def house_of(locks=(), keys=(), hand=()):
    return ((locks, keys),), hand


def altered(chance, thing):
    """The thing with something odd in its place or, mostly, in some place within it."""
    if not isinstance(thing, tuple) or not thing or chance.random() < 0.15:
        return chance.choice((chance.choice(ODD), list(thing) if isinstance(thing, tuple) else (thing,)))
    if chance.random() < 0.15:
        return thing + (chance.choice(thing),)
    if chance.random() < 0.15:
        return thing[::-1]
    place = chance.randrange(len(thing))
    return thing[:place] + (altered(chance, thing[place]),) + thing[place + 1:]


class IsHouse(unittest.TestCase):
    def yes(self, thing):
        self.assertIs(is_house(thing), True, repr(thing))

    def no(self, thing):
        self.assertIs(is_house(thing), False, repr(thing))

    def test_boxes_from_1_to_30(self):
        for many in (1, 2, 29, 30):
            self.yes(((PLAIN,) * many, ()))
        for many in (0, 31, 32, 100):
            self.no(((PLAIN,) * many, ()))

    def test_locks_at_most_3(self):
        for many in range(4):
            self.yes(house_of(locks=names(many)))
        for many in (4, 5, 100):
            self.no(house_of(locks=names(many)))

    def test_keys_at_most_6(self):
        for many in range(7):
            self.yes(house_of(keys=names(many)))
        for many in (7, 8, 100):
            self.no(house_of(keys=names(many)))

    def test_hand_at_most_6(self):
        for many in range(7):
            self.yes(house_of(hand=names(many)))
        for many in (7, 8, 100):
            self.no(house_of(hand=names(many)))

    def test_colours_of_1_to_8_small_letters(self):
        for colour in ("a", "z", "az", "abcdefg", "abcdefgh", "zzzzzzzz"):
            for place in ("locks", "keys", "hand"):
                self.yes(house_of(**{place: (colour,)}))
        for colour in NO_COLOURS:
            for place in ("locks", "keys", "hand"):
                self.no(house_of(**{place: (colour,)}))
                self.no(house_of(**{place: ("a", colour)}))
                self.no(house_of(**{place: (colour, "zz")}))

    def test_only_rising(self):
        for place in ("locks", "keys", "hand"):
            self.yes(house_of(**{place: ("a", "aa", "b")}))
            for row in (("b", "a"), ("a", "a"), ("aa", "a"), ("a", "c", "b"), ("a", "b", "b"), ("b", "a", "c")):
                self.no(house_of(**{place: row}))

    def test_only_tuples(self):
        for place in ("locks", "keys", "hand"):
            self.no(house_of(**{place: ["a"]}))
            self.no(house_of(**{place: []}))
            self.no(house_of(**{place: "a"}))
            self.no(house_of(**{place: ""}))
            self.no(house_of(**{place: None}))
        self.no([(PLAIN,), ()])
        self.no(([PLAIN], ()))
        self.no((([(), ()],), ()))
        self.no((PLAIN, ()))

    def test_only_pairs(self):
        self.yes(((PLAIN,), ()))
        self.no(((PLAIN,),))
        self.no(((PLAIN,), (), ()))
        self.no(((((),),), ()))
        self.no(((((), (), ()),), ()))

    def test_each_box_counts(self):
        for place in range(30):
            for thing in ((("b", "a"), ()), ((), ["a"]), None, 0):
                boxes = [PLAIN] * 30
                boxes[place] = thing
                self.no((tuple(boxes), ()))

    def test_of_anything(self):
        for thing in THINGS:
            self.no(thing)
            self.no(((thing, PLAIN, None), ()))
            if thing != (PLAIN,):
                self.no((thing, ()))
            if thing != PLAIN:
                self.no(((thing,), ()))
            if thing not in ((), ("a",), ("a", "b")):
                self.no(((PLAIN,), thing))
                self.no(((PLAIN, (thing, ())), ()))
                self.no((((("a",), thing), PLAIN), ()))

    def test_houses_used_here(self):
        for house in tiny_houses():
            self.yes(house)

    def test_all_bounds_at_once(self):
        full = ((((names(3), names(6)),) * 30), names(6))
        self.yes(full)
        self.no((full[0] + full[0][:1], full[1]))
        self.no((full[0], names(7)))
        for place in (0, 15, 29):
            for box in ((names(4), names(6)), (names(3), names(7)), (names(3)[::-1], ()), (names(3), names(6)[::-1])):
                self.no((full[0][:place] + (box,) + full[0][place + 1:], full[1]))

    def test_word_for_word(self):
        chance = random.Random(8)
        met = {True: 0, False: 0}
        for _ in range(6000):
            colours = names(6) + ("abcdefgh", "z", "yy")
            thing = random_house(chance, chance.choice((1, 2, 8, 29, 30)), colours, 3, 6, 6)
            self.yes(thing)
            for _ in range(chance.randint(1, 2)):
                thing = altered(chance, thing)
            due = plainly_house(thing)
            met[due] += 1
            self.assertIs(is_house(thing), due, repr(thing))
        self.assertGreater(min(met.values()), 200)

    def test_nothing_hangs_on_what_was_asked_before(self):
        box = (("amber", "blue"), ("cyan",))
        house = ((box,) * 8, ("amber",))
        alike = [
            [(box,) * 8, ("amber",)], ([box] * 8, ("amber",)), ((box,) * 8, ["amber"]), ((box,) * 7 + (list(box),), ()),
            ((box,) * 7 + ((["amber", "blue"], ("cyan",)),), ()), ((box,) * 7 + ((("amber", "blue"), ["cyan"]),), ()),
        ]
        for thing in alike:
            self.yes(house)
            self.no(thing)
            self.no(thing)
        self.yes(house)


class Rounds(unittest.TestCase):
    def test_boxes_without_locks_open_first(self):
        self.assertEqual(rounds(house_of()), [(0,)])
        self.assertEqual(rounds(((PLAIN,) * 30, ())), [tuple(range(30))])

    def test_an_empty_hand_opens_no_lock(self):
        self.assertEqual(rounds(house_of(locks=("a",))), [])
        self.assertEqual(rounds(house_of(locks=("a",), keys=("a",))), [])
        self.assertEqual(shut(house_of(locks=("a",), keys=("a",))), (0,))

    def test_each_lock_wants_its_key(self):
        self.assertEqual(rounds(house_of(locks=("a", "b", "c"), hand=("a", "b"))), [])
        self.assertEqual(rounds(house_of(locks=("a", "b", "c"), hand=("a", "b", "c"))), [(0,)])
        self.assertEqual(rounds(house_of(locks=("a",), hand=("aa",))), [])

    def test_a_key_is_used_by_several_boxes_and_rounds(self):
        house = (((("a",), ("b",)), (("a",), ()), (("a", "b"), ("c",)), (("a", "c"), ())), ("a",))
        self.assertEqual(rounds(house), [(0, 1), (2,), (3,)])
        self.assertEqual(shut(house), ())

    def test_keys_of_a_round_serve_from_the_next_on(self):
        house = (((("b",), ()), (("a",), ("b",)), ((), ("a",))), ())
        self.assertEqual(rounds(house), [(2,), (1,), (0,)])
        house = ((((), ("a",)), (("a",), ("b",)), (("b",), ())), ())
        self.assertEqual(rounds(house), [(0,), (1,), (2,)])

    def test_keys_from_several_boxes_open_one(self):
        house = (((("a", "b", "c"), ()), ((), ("a",)), ((), ("b",)), (("b",), ("c",))), ())
        self.assertEqual(rounds(house), [(1, 2), (3,), (0,)])

    def test_some_stay_shut(self):
        house = (((("a",), ("b",)), (("b",), ("a",)), ((), ("d",)), (("d",), ()), (("a", "d"), ())), ())
        self.assertEqual(rounds(house), [(2,), (3,)])
        self.assertEqual(shut(house), (0, 1, 4))

    def test_a_chain_of_30(self):
        colour = names(30)
        boxes = tuple(((colour[at],), (colour[(at + 29) % 30],)) for at in range(30))
        self.assertEqual(rounds((boxes, (colour[29],))), [(at,) for at in range(29, -1, -1)])
        self.assertEqual(shut((boxes, (colour[29],))), ())
        self.assertEqual(rounds((boxes, ())), [])
        self.assertEqual(shut((boxes, ())), tuple(range(30)))

    def test_word_for_word(self):
        for house in list(tiny_houses()) + list(small_houses(1, 300, 3)) + list(large_houses(2, 40, 2)):
            boxes, hand = house
            told = rounds(house)
            self.assertIs(type(told), list)
            held, done = set(hand), set()
            for ready in told + [()]:
                due = [at for at, (locks, _) in enumerate(boxes) if at not in done and set(locks) <= held]
                self.assertEqual(ready, tuple(due))
                done.update(due)
                held.update(*(boxes[at][1] for at in due))
            self.assertEqual(shut(house), tuple(at for at in range(len(boxes)) if at not in done))

    def test_the_list_is_the_askers_own(self):
        house = ((PLAIN, (("a",), ())), ("a",))
        told = rounds(house)
        told.append("mine")
        told[0] = None
        self.assertEqual(rounds(house), [(0, 1)])
        self.assertIsNot(rounds(house), rounds(house))

    def test_no_house_is_refused(self):
        for thing in THINGS + [((PLAIN,) * 31, ()), ([PLAIN], ()), house_of(hand=("b", "a"))]:
            self.assertRaises(NoHouse, rounds, thing)
            self.assertRaises(NoHouse, shut, thing)

    def test_nothing_handed_in_is_changed(self):
        thing = [[["a"], ["b"]], ["a"]]
        before = copy.deepcopy(thing)
        for ask in (is_house, rounds, shut):
            try:
                ask(thing)
            except NoHouse:
                pass
        self.assertEqual(thing, before)


class Lost(unittest.TestCase):
    def test_lost_from_the_hand_and_from_boxes(self):
        house = (((("a",), ()), (("b",), ("a",)), ((), ("b",))), ("a", "b"))
        self.assertEqual(lost(house, "a"), (0,))
        self.assertEqual(lost(house, "b"), (1,))

    def test_what_hangs_on_it_is_shut_too(self):
        house = (((("c",), ()), (("b",), ("c",)), (("a",), ("b",)), ((), ("d",)), (("d",), ())), ("a",))
        self.assertEqual(lost(house, "a"), (0, 1, 2))
        self.assertEqual(lost(house, "c"), (0,))
        self.assertEqual(lost(house, "d"), (4,))

    def test_what_is_shut_anyway_is_not_told(self):
        house = (((("a", "x"), ()), (("a",), ()), (("x",), ("x",))), ("a",))
        self.assertEqual(lost(house, "a"), (1,))
        self.assertEqual(lost(house, "x"), ())

    def test_a_colour_that_is_nowhere(self):
        house = (((("a",), ("b",)), PLAIN), ("a",))
        for colour in ("c", "aa", "abcdefgh"):
            self.assertEqual(lost(house, colour), ())

    def test_all_of_30(self):
        self.assertEqual(lost((((("a",), ("a",)),) * 30, ("a",)), "a"), tuple(range(30)))
        self.assertEqual(lost(((PLAIN,) * 30, ("a",)), "a"), ())

    def test_word_for_word(self):
        for house in list(tiny_houses()) + list(small_houses(3, 200, 3)) + list(large_houses(4, 20, 2)):
            boxes, hand = house
            for colour in sorted({each for box in boxes for row in box for each in row} | {"q"}):
                fewer = tuple((locks, tuple(key for key in keys if key != colour)) for locks, keys in boxes)
                then = left_shut((fewer, tuple(key for key in hand if key != colour)))
                due = tuple(box for box in then if box not in left_shut(house))
                self.assertEqual(lost(house, colour), due)

    def test_no_colour_is_refused(self):
        for thing in NO_COLOURS + [thing for thing in THINGS if thing not in ("a", "red")]:
            self.assertRaises(NoColour, lost, house_of(), thing)

    def test_no_house_goes_ahead_of_no_colour(self):
        for thing in THINGS:
            self.assertRaises(NoHouse, lost, thing, "a")
            self.assertRaises(NoHouse, lost, thing, "A")
            self.assertRaises(NoHouse, lost, thing, thing)


class Order(unittest.TestCase):
    def test_which_boxes_open_hangs_on_no_order(self):
        chance = random.Random(5)
        for house in list(small_houses(6, 200, 3)) + list(large_houses(7, 20, 2)):
            for _ in range(5):
                self.assertEqual(left_shut(house, (), chance), shut(house))


if __name__ == "__main__":
    unittest.main()
