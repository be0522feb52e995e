"""keyswithin.kept: point 11, and of point 2 what speaks of it."""

import copy
import random
import unittest
from unittest import mock

from keyswithin import errors
from keyswithin.errors import Full, Locked, NoBox, NoHouse, NoKey, NothingLeft, Open, Shut
from keyswithin.kept import Kept
from tests.samples import THINGS, left_shut, names, nested, random_house, small_houses

PLAIN = ((), ())
SIX = ("a", "b", "c", "d", "e", "f")
# Box 0 opens with the hand, box 1 with what lies in box 0 too, box 2 with nothing that lies outside it.
HOUSE = (((("a",), ("b", "c")), (("a", "b"), ("d",)), (("d", "z"), ("z",))), ("a",))
# No numbers of the boxes of HOUSE.
WRONG_BOXES = [
    True, False, -1, -3, 3, 4, 30, 10 ** 39, -(10 ** 39), None, "", "0", (), (0,), [], [0], nested(20, list),
]
WRONG_COLOURS = [
    "", "A", "aa", "z", "a ", "abcdefghi", "x" * 100, None, True, False, 0, 1, (), ("a",), [], ["a"], nested(20, tuple),
]


def told_of(kept):
    """All that a kept house tells."""
    boxes = range(len(kept.house[0]))
    inside = tuple(kept.inside(box) for box in boxes)
    return kept.hand(), kept.opened(), kept.broken(), inside, kept.can_all(), len(kept)


class PlainKept:
    """Point 11 word for word, over sets; a deed returns the refusal's name and field, or None."""

    def __init__(self, house):
        self.boxes = house[0]
        self.state = {
            "hand": set(house[1]), "open": set(), "broken": set(), "inside": [set(keys) for _, keys in house[0]],
        }
        self.past = []

    def is_box(self, box):
        return type(box) is int and 0 <= box < len(self.boxes)

    def do(self, deed, *told):
        before = copy.deepcopy(self.state)
        refusal = getattr(self, deed)(*told)
        if refusal is None and deed != "back":
            self.past.append(before)
        return refusal

    def lift(self, box):
        self.state["hand"] |= self.state["inside"][box]
        self.state["inside"][box] = set()
        self.state["open"].add(box)

    def open_box(self, box):
        if not self.is_box(box):
            return "NoBox", None
        if box in self.state["open"]:
            return "Open", None
        if box not in self.state["broken"]:
            for colour in sorted(self.boxes[box][0]):
                if colour not in self.state["hand"]:
                    return "Locked", colour
        return self.lift(box)

    def break_box(self, box):
        if not self.is_box(box):
            return "NoBox", None
        if box in self.state["open"]:
            return "Open", None
        self.state["broken"].add(box)
        return self.lift(box)

    def shut_box(self, box):
        if not self.is_box(box):
            return "NoBox", None
        if box not in self.state["open"]:
            return "Shut", None
        return self.state["open"].remove(box)

    def take(self, box):
        if not self.is_box(box):
            return "NoBox", None
        if box not in self.state["open"]:
            return "Shut", None
        return self.lift(box)

    def lay(self, colour, box):
        if not isinstance(colour, str) or colour not in self.state["hand"]:
            return "NoKey", None
        if not self.is_box(box):
            return "NoBox", None
        if box not in self.state["open"]:
            return "Shut", None
        if len(self.state["inside"][box] - {colour}) == 6:
            return "Full", None
        self.state["hand"].remove(colour)
        return self.state["inside"][box].add(colour)

    def back(self):
        if not self.past:
            return "NothingLeft", None
        self.state = self.past.pop()
        return None

    def told(self):
        state = self.state
        rows = [tuple(sorted(state[name])) for name in ("hand", "open", "broken")]
        inside = tuple(tuple(sorted(keys)) for keys in state["inside"])
        now = tuple((() if box in state["broken"] else locks, inside[box]) for box, (locks, _) in enumerate(self.boxes))
        can_all = left_shut((now, rows[0]), rows[1]) == ()
        return (*rows, inside, can_all, len(rows[1]))


def outcome(kept, deed, *told):
    """The refusal's name and field, or None where the deed is done."""
    try:
        assert getattr(kept, deed)(*told) is None
    except errors.BoxError as refusal:
        return type(refusal).__name__, getattr(refusal, "colour", None)
    return None


ALL_DEEDS = ("open_box", "open_box", "break_box", "shut_box", "take", "lay", "lay", "lay", "back")
# Hardly anything is taken up again, so that boxes come to be full.
LAYING_BY = ("open_box", "break_box") + ("lay",) * 20


def drawn_deed(chance, deeds, boxes, colours):
    """A deed and its arguments, now and then of wrong kinds."""
    deed = chance.choice(deeds)
    box = chance.randrange(boxes) if chance.random() < 0.95 else chance.choice((-1, boxes, True, None, "0", [0]))
    colour = chance.choice(colours) if chance.random() < 0.95 else chance.choice(("Z", "", 0, None, ["a"], ("a",)))
    if deed == "back":
        return (deed,)
    return (deed, colour, box) if deed == "lay" else (deed, box)


class KeptCase(unittest.TestCase):
    def refused(self, refusal, kept, deed, *told):
        """A deed is refused so, and nothing is changed by it."""
        before = told_of(kept)
        with self.assertRaises(refusal) as caught:
            getattr(kept, deed)(*told)
        self.assertIs(type(caught.exception), refusal)
        self.assertEqual(told_of(kept), before)
        return caught.exception


class Begin(KeptCase):
    def test_all_boxes_are_shut_at_first(self):
        kept = Kept(HOUSE)
        self.assertEqual(told_of(kept), (("a",), (), (), (("b", "c"), ("d",), ("z",)), False, 0))

    def test_bounds(self):
        for many in (1, 30):
            kept = Kept(((PLAIN,) * many, SIX))
            self.assertEqual(kept.hand(), SIX)
            self.assertEqual(kept.inside(many - 1), ())
            self.assertIs(kept.can_all(), True)

    def test_no_house_is_refused(self):
        wrong = [((PLAIN,) * 31, ()), ((), ()), ([PLAIN], ()), ((PLAIN,), ("b", "a")), (((["a"], ()),), ())]
        for thing in THINGS + wrong + [Kept(HOUSE)]:
            self.assertRaises(NoHouse, Kept, thing)


class OpenBox(KeptCase):
    def test_keys_come_to_the_hand(self):
        kept = Kept(HOUSE)
        self.assertIsNone(kept.open_box(0))
        self.assertEqual(told_of(kept), (("a", "b", "c"), (0,), (), ((), ("d",), ("z",)), False, 1))
        kept.open_box(1)
        self.assertEqual(told_of(kept), (("a", "b", "c", "d"), (0, 1), (), ((), (), ("z",)), False, 2))

    def test_no_locks(self):
        kept = Kept(((((), ("b",)), ((), ("a",))), ()))
        kept.open_box(1)
        kept.open_box(0)
        self.assertEqual(kept.hand(), ("a", "b"))
        self.assertEqual(kept.opened(), (0, 1))

    def test_one_key_of_a_colour(self):
        kept = Kept(((((), ("a", "b")), ((), ("b", "c"))), ("a",)))
        kept.open_box(0)
        kept.open_box(1)
        self.assertEqual(kept.hand(), ("a", "b", "c"))

    def test_more_than_six_colours_in_the_hand(self):
        kept = Kept(((((), names(6)),), SIX))
        kept.open_box(0)
        self.assertEqual(kept.hand(), tuple(sorted(SIX + names(6))))

    def test_refusals(self):
        kept = Kept(HOUSE)
        for thing in WRONG_BOXES:
            self.refused(NoBox, kept, "open_box", thing)
        self.assertEqual(self.refused(Locked, kept, "open_box", 1).colour, "b")
        self.assertEqual(self.refused(Locked, kept, "open_box", 2).colour, "d")
        kept.open_box(0)
        self.refused(Open, kept, "open_box", 0)
        kept.open_box(1)
        self.assertEqual(self.refused(Locked, kept, "open_box", 2).colour, "z")

    def test_the_first_colour_without_a_key(self):
        locks = ("k", "m", "p")
        for hand, due in (((), "k"), (("k",), "m"), (("k", "m"), "p"), (("m",), "k"), (("k", "p"), "m")):
            kept = Kept((((locks, ()),), hand))
            self.assertEqual(self.refused(Locked, kept, "open_box", 0).colour, due)
        Kept((((locks, ()),), locks)).open_box(0)

    def test_open_goes_ahead_of_locked(self):
        kept = Kept((((("a",), ()),), ("a",)))
        kept.open_box(0)
        kept.lay("a", 0)
        self.refused(Open, kept, "open_box", 0)
        kept.shut_box(0)
        self.assertEqual(self.refused(Locked, kept, "open_box", 0).colour, "a")

    def test_its_own_key_within_does_not_open_it(self):
        kept = Kept((((("a",), ("a",)),), ()))
        self.refused(Locked, kept, "open_box", 0)


class BreakBox(KeptCase):
    def test_whatever_its_locks(self):
        kept = Kept(HOUSE)
        self.assertIsNone(kept.break_box(2))
        self.assertEqual(told_of(kept), (("a", "z"), (2,), (2,), (("b", "c"), ("d",), ()), True, 1))
        kept.break_box(0)
        self.assertEqual(kept.broken(), (0, 2))
        self.assertEqual(kept.hand(), ("a", "b", "c", "z"))

    def test_no_locks_from_then_on(self):
        kept = Kept(HOUSE)
        kept.break_box(2)
        kept.lay("z", 2)
        kept.shut_box(2)
        self.assertEqual(kept.broken(), (2,))
        self.assertEqual(kept.opened(), ())
        self.assertEqual(kept.inside(2), ("z",))
        self.assertIs(kept.can_all(), True)
        kept.open_box(2)
        self.assertEqual(kept.hand(), ("a", "z"))
        kept.shut_box(2)
        kept.break_box(2)
        self.assertEqual(kept.broken(), (2,))
        self.assertEqual(kept.opened(), (2,))

    def test_an_opened_box_is_broken_when_it_is_shut_again(self):
        kept = Kept(HOUSE)
        kept.open_box(0)
        kept.lay("a", 0)
        kept.shut_box(0)
        self.refused(Locked, kept, "open_box", 0)
        kept.break_box(0)
        self.assertEqual((kept.hand(), kept.broken()), (("a", "b", "c"), (0,)))

    def test_refusals(self):
        kept = Kept(HOUSE)
        for thing in WRONG_BOXES:
            self.refused(NoBox, kept, "break_box", thing)
        kept.open_box(0)
        self.refused(Open, kept, "break_box", 0)
        kept.break_box(1)
        self.refused(Open, kept, "break_box", 1)
        self.assertEqual(kept.broken(), (1,))


class ShutBox(KeptCase):
    def test_shut_and_open_again(self):
        kept = Kept(HOUSE)
        kept.open_box(0)
        kept.open_box(1)
        self.assertIsNone(kept.shut_box(0))
        self.assertEqual(told_of(kept), (("a", "b", "c", "d"), (1,), (), ((), (), ("z",)), False, 1))
        kept.open_box(0)
        self.assertEqual(kept.opened(), (0, 1))

    def test_what_was_laid_in_is_shut_in(self):
        kept = Kept((((("a",), ()), ((), ("a",))), ("a",)))
        kept.open_box(0)
        kept.lay("a", 0)
        kept.shut_box(0)
        self.assertEqual(kept.inside(0), ("a",))
        self.refused(Locked, kept, "open_box", 0)
        self.refused(Shut, kept, "take", 0)
        kept.open_box(1)
        kept.open_box(0)
        self.assertEqual(kept.hand(), ("a",))
        self.assertEqual(kept.inside(0), ())

    def test_refusals(self):
        kept = Kept(HOUSE)
        for thing in WRONG_BOXES:
            self.refused(NoBox, kept, "shut_box", thing)
        for box in (0, 1, 2):
            self.refused(Shut, kept, "shut_box", box)
        kept.open_box(0)
        kept.shut_box(0)
        self.refused(Shut, kept, "shut_box", 0)


class Take(KeptCase):
    def test_keys_are_taken_up(self):
        kept = Kept(HOUSE)
        kept.open_box(0)
        kept.lay("a", 0)
        kept.lay("c", 0)
        self.assertEqual((kept.hand(), kept.inside(0)), (("b",), ("a", "c")))
        self.assertIsNone(kept.take(0))
        self.assertEqual(told_of(kept), (("a", "b", "c"), (0,), (), ((), ("d",), ("z",)), False, 1))

    def test_nothing_is_taken_up(self):
        kept = Kept(HOUSE)
        kept.open_box(0)
        before = told_of(kept)
        self.assertIsNone(kept.take(0))
        self.assertEqual(told_of(kept), before)
        kept.back()
        self.assertEqual(told_of(kept), before)
        kept.back()
        self.assertEqual(kept.opened(), ())

    def test_refusals(self):
        kept = Kept(HOUSE)
        for thing in WRONG_BOXES:
            self.refused(NoBox, kept, "take", thing)
        for box in (0, 1, 2):
            self.refused(Shut, kept, "take", box)


class Lay(KeptCase):
    def test_from_the_hand_into_the_box(self):
        kept = Kept(HOUSE)
        kept.open_box(0)
        self.assertIsNone(kept.lay("c", 0))
        kept.lay("a", 0)
        self.assertEqual(told_of(kept), (("b",), (0,), (), (("a", "c"), ("d",), ("z",)), False, 1))

    def test_one_of_this_colour_lies_there_already(self):
        kept = Kept((((("a",), ()), ((), ("a",))), ("a",)))
        kept.open_box(0)
        kept.lay("a", 0)
        kept.open_box(1)
        kept.lay("a", 0)
        self.assertEqual((kept.hand(), kept.inside(0)), ((), ("a",)))
        kept.back()
        self.assertEqual((kept.hand(), kept.inside(0)), (("a",), ("a",)))

    def test_full(self):
        kept = Kept(((((), ("g",)), ((), ("c",))), SIX))
        kept.open_box(0)
        for colour in SIX:
            kept.lay(colour, 0)
        self.assertEqual((kept.hand(), kept.inside(0)), (("g",), SIX))
        self.refused(Full, kept, "lay", "g", 0)
        # Of a colour that lies in it one may be laid all the same.
        kept.open_box(1)
        kept.lay("c", 0)
        self.assertEqual((kept.hand(), kept.inside(0)), (("g",), SIX))
        self.refused(Full, kept, "lay", "g", 0)
        kept.lay("g", 1)
        self.assertEqual((kept.hand(), kept.inside(1)), ((), ("g",)))

    def test_five_others_are_not_full(self):
        kept = Kept(((PLAIN,), SIX))
        kept.open_box(0)
        for many, colour in enumerate(SIX):
            kept.lay(colour, 0)
            self.assertEqual(kept.inside(0), SIX[:many + 1])

    def test_no_key(self):
        kept = Kept(HOUSE)
        kept.open_box(0)
        for thing in WRONG_COLOURS:
            self.refused(NoKey, kept, "lay", thing, 0)
        # Of this one a key is in the house, but not in the hand.
        self.refused(NoKey, kept, "lay", "d", 0)
        kept.lay("c", 0)
        self.refused(NoKey, kept, "lay", "c", 0)

    def test_refusals_in_their_order(self):
        kept = Kept(HOUSE)
        for box in WRONG_BOXES + [0, 1]:
            for colour in WRONG_COLOURS:
                self.refused(NoKey, kept, "lay", colour, box)
        for box in WRONG_BOXES:
            self.refused(NoBox, kept, "lay", "a", box)
        self.refused(Shut, kept, "lay", "a", 0)
        full = Kept(((((), SIX), ((), SIX), PLAIN), ("g",)))
        self.refused(Shut, full, "lay", "g", 0)
        full.open_box(0)
        for colour in SIX:
            full.lay(colour, 0)
        self.refused(NoKey, full, "lay", "h", 0)
        self.refused(Full, full, "lay", "g", 0)
        full.shut_box(0)
        self.refused(Shut, full, "lay", "g", 0)


class Back(KeptCase):
    def test_each_deed(self):
        kept = Kept(HOUSE)
        told = [told_of(kept)]
        deeds = [
            ("open_box", 0), ("lay", "c", 0), ("take", 0), ("take", 0), ("lay", "b", 0), ("shut_box", 0), ("open_box", 0),
            ("open_box", 1), ("break_box", 2), ("lay", "z", 2), ("shut_box", 2), ("break_box", 2), ("shut_box", 2),
        ]
        for deed, *parts in deeds:
            getattr(kept, deed)(*parts)
            told.append(told_of(kept))
        while told:
            self.assertEqual(told_of(kept), told.pop())
            if told:
                self.assertIsNone(kept.back())
        self.refused(NothingLeft, kept, "back")
        self.assertEqual(kept, Kept(HOUSE))

    def test_a_broken_box_has_its_locks_again(self):
        kept = Kept(HOUSE)
        kept.break_box(2)
        kept.back()
        self.assertEqual(kept.broken(), ())
        self.refused(Locked, kept, "open_box", 2)

    def test_nothing_left(self):
        kept = Kept(HOUSE)
        self.refused(NothingLeft, kept, "back")
        kept.open_box(0)
        kept.back()
        self.refused(NothingLeft, kept, "back")
        self.refused(NothingLeft, kept, "back")
        kept.open_box(0)
        kept.back()
        self.assertEqual(kept, Kept(HOUSE))

    def test_what_is_refused_is_nothing_to_be_taken_back(self):
        kept = Kept(HOUSE)
        kept.open_box(0)
        for deed, *parts in (
            ("open_box", 0), ("open_box", None), ("open_box", 2), ("break_box", 0), ("break_box", 9), ("shut_box", 1),
            ("take", 1), ("take", True), ("lay", "q", 0), ("lay", "a", 1), ("lay", "a", 7), ("inside", 8),
        ):
            self.assertIsNotNone(outcome(kept, deed, *parts))
        kept.can_all()
        kept.back()
        self.assertEqual(kept, Kept(HOUSE))
        self.refused(NothingLeft, kept, "back")

    def test_many_deeds(self):
        kept = Kept(((PLAIN,), ()))
        for _ in range(1000):
            kept.open_box(0)
            kept.shut_box(0)
        for left in range(2000, 0, -1):
            self.assertEqual(len(kept), left % 2)
            kept.back()
        self.refused(NothingLeft, kept, "back")


class Told(KeptCase):
    def test_kinds(self):
        kept = Kept(HOUSE)
        for step in (None, "open_box", "shut_box", "break_box"):
            if step:
                getattr(kept, step)(0)
            for told in (kept.hand(), kept.opened(), kept.broken(), kept.inside(0)):
                self.assertIs(type(told), tuple)
            self.assertIs(type(kept.can_all()), bool)

    def test_inside_refuses_no_box(self):
        for box in (None, 0):
            kept = Kept(HOUSE)
            if box is not None:
                kept.open_box(box)
            for thing in WRONG_BOXES:
                self.refused(NoBox, kept, "inside", thing)

    def test_boxes_of_this_house(self):
        for many in (1, 2, 30):
            kept = Kept(((PLAIN,) * many, ()))
            for deed in ("open_box", "break_box", "shut_box", "take", "inside"):
                self.refused(NoBox, kept, deed, many)
                self.refused(NoBox, kept, deed, -1)
            self.assertEqual(kept.inside(many - 1), ())

    def test_can_all_takes_up_the_keys_in_open_boxes(self):
        kept = Kept(((PLAIN, (("a",), ())), ("a",)))
        self.assertIs(kept.can_all(), True)
        kept.open_box(0)
        kept.lay("a", 0)
        self.assertIs(kept.can_all(), True)
        kept.shut_box(0)
        # A shut box without locks is opened again.
        self.assertIs(kept.can_all(), True)

    def test_can_all_where_a_key_is_shut_in(self):
        kept = Kept((((("a",), ()), (("a",), ())), ("a",)))
        kept.open_box(0)
        kept.lay("a", 0)
        self.assertIs(kept.can_all(), True)
        before = told_of(kept)
        kept.shut_box(0)
        self.assertIs(kept.can_all(), False)
        kept.back()
        self.assertEqual(told_of(kept), before)

    def test_can_all_needs_nothing_where_all_are_open(self):
        kept = Kept((((("a",), ()), (("b",), ())), ()))
        self.assertIs(kept.can_all(), False)
        kept.break_box(0)
        self.assertIs(kept.can_all(), False)
        kept.break_box(1)
        self.assertIs(kept.can_all(), True)

    def test_can_all_changes_nothing(self):
        for house in small_houses(61, 50, 2):
            kept = Kept(house)
            kept.can_all()
            self.assertEqual(kept, Kept(house))
            self.assertRaises(NothingLeft, kept.back)
            self.assertIs(kept.can_all(), left_shut(house) == ())

    def test_len(self):
        kept = Kept(((PLAIN,) * 30, ()))
        for box in range(30):
            self.assertEqual(len(kept), box)
            kept.open_box(box)
        self.assertEqual(len(kept), 30)
        kept.shut_box(3)
        self.assertEqual(len(kept), 29)

    def test_nothing_handed_in_is_changed(self):
        house = copy.deepcopy(HOUSE)
        kept = Kept(house)
        kept.break_box(2)
        kept.open_box(0)
        kept.lay("a", 0)
        self.assertEqual(house, HOUSE)
        thing = [[0], ["a"]]
        self.assertRaises(NoBox, kept.open_box, thing)
        self.assertRaises(NoKey, kept.lay, thing, thing)
        self.assertEqual(thing, [[0], ["a"]])

    def test_two_kept_houses_stand_apart(self):
        one, other = Kept(HOUSE), Kept(HOUSE)
        one.open_box(0)
        self.assertEqual(told_of(other), told_of(Kept(HOUSE)))


class Equal(KeptCase):
    def test_equal_whatever_was_done(self):
        one, other = Kept(HOUSE), Kept(copy.deepcopy(HOUSE))
        self.assertTrue(one == other)
        self.assertFalse(one != other)
        one.open_box(0)
        self.assertFalse(one == other)
        self.assertTrue(one != other)
        other.open_box(0)
        other.take(0)
        other.lay("c", 0)
        self.assertFalse(one == other)
        other.take(0)
        self.assertTrue(one == other)

    def test_other_houses(self):
        self.assertFalse(Kept(((PLAIN,), ())) == Kept(((PLAIN, PLAIN), ())))
        self.assertFalse(Kept(((PLAIN,), ())) == Kept(((PLAIN,), ("a",))))
        # The locks of these are past, and all else is the same.
        one, other = Kept((((("a",), ()),), ())), Kept((((("b",), ()),), ()))
        one.break_box(0)
        other.break_box(0)
        self.assertEqual(told_of(one), told_of(other))
        self.assertFalse(one == other)
        # The keys of these lay elsewhere at first.
        one, other = Kept(((((), ("a",)), PLAIN), ())), Kept(((PLAIN, ((), ("a",))), ()))
        for kept in (one, other):
            kept.open_box(0)
            kept.open_box(1)
        self.assertEqual(told_of(one), told_of(other))
        self.assertFalse(one == other)

    def test_other_hands(self):
        one, other = Kept((((("a",), ()),), ("a",))), Kept((((("a",), ()),), ("a",)))
        one.open_box(0)
        other.open_box(0)
        other.lay("a", 0)
        self.assertFalse(one == other)

    def test_other_open_boxes(self):
        one, other = Kept(((PLAIN, PLAIN), ())), Kept(((PLAIN, PLAIN), ()))
        one.open_box(0)
        other.open_box(1)
        self.assertFalse(one == other)
        one.shut_box(0)
        other.shut_box(1)
        self.assertTrue(one == other)

    def test_other_broken_boxes(self):
        one, other = Kept(((PLAIN,), ())), Kept(((PLAIN,), ()))
        one.open_box(0)
        other.break_box(0)
        self.assertFalse(one == other)
        one.shut_box(0)
        other.shut_box(0)
        self.assertFalse(one == other)

    def test_what_lies_elsewhere(self):
        rows = []
        for box in (0, 1):
            kept = Kept(((PLAIN, PLAIN), ("a",)))
            kept.open_box(0)
            kept.open_box(1)
            kept.lay("a", box)
            rows.append(kept)
        self.assertFalse(rows[0] == rows[1])

    def test_nothing_else_equals_one(self):
        kept = Kept(HOUSE)
        for thing in THINGS + [HOUSE, kept.state, (HOUSE, kept.state), [], 0]:
            self.assertIs(kept == thing, False)
            self.assertIs(thing == kept, False)
            self.assertIs(kept != thing, True)
        self.assertIs(kept == mock.ANY, False)
        self.assertIs(kept == kept, True)


class Row(KeptCase):
    def test_drawn_deeds_word_for_word(self):
        chance = random.Random(62)
        met = {}
        for at in range(150):
            deeds = LAYING_BY if at % 3 == 0 else ALL_DEEDS
            colours = names(chance.randint(2, 9))
            boxes = chance.randint(1, 4)
            house = random_house(chance, boxes, colours, 2, 6, 6)
            kept, plain = Kept(house), PlainKept(house)
            for _ in range(80):
                deed = drawn_deed(chance, deeds, boxes, colours)
                due = plain.do(*deed)
                self.assertEqual(outcome(kept, *deed), due, (house, deed))
                self.assertEqual(told_of(kept), plain.told(), (house, deed))
                met[deed[0], due and due[0]] = True
            while plain.do("back") is None:
                kept.back()
                self.assertEqual(told_of(kept), plain.told())
            self.refused(NothingLeft, kept, "back")
        for refusal in ("NoBox", "NoKey", "Shut", "Full", None):
            self.assertIn(("lay", refusal), met)
        for refusal in ("NoBox", "Open", "Locked", None):
            self.assertIn(("open_box", refusal), met)


if __name__ == "__main__":
    unittest.main()
