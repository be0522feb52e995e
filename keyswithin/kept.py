"""A house kept as boxes are opened, broken and shut, and keys are laid by and taken up."""

from keyswithin.errors import Full, Locked, NoBox, NoKey, NothingLeft, Open, Shut
from keyswithin.houses import MOST_KEYS, check_house, shut_boxes
from keyswithin.kinds import is_place
from keyswithin.rows import changed, joined, without


class Kept:
    """A kept house, all boxes shut at first."""

    def __init__(self, house):
        check_house(house)
        boxes, hand = house
        self.house = house
        # The hand, the open boxes, the broken ones, and what lies in each box. All are tuples, which
        # no deed changes, so what was before a deed is kept whole and only put back.
        self.state = (hand, (), (), tuple([keys for locks, keys in boxes]))
        self.past = []

    def open_box(self, box):
        """Open a shut box with keys from the hand; what lies in it comes to the hand."""
        self.check_shut(box)
        for colour in self.locks_of(box):
            if colour not in self.hand():
                raise Locked(colour)
        self.lift(box, self.broken())

    def break_box(self, box):
        """Open a shut box whatever its locks; it has none from then on."""
        self.check_shut(box)
        self.lift(box, joined(self.broken(), (box,)))

    def shut_box(self, box):
        """Shut an open box."""
        self.check_open(box)
        hand, opened, broken, lying = self.state
        self.go_on((hand, without(opened, box), broken, lying))

    def take(self, box):
        """Take up the keys in an open box."""
        self.check_open(box)
        self.lift(box, self.broken())

    def lay(self, colour, box):
        """Lay a key from the hand into an open box."""
        if colour not in self.hand():
            raise NoKey("this is no colour of which a key is in the hand")
        self.check_open(box)
        keys = joined(self.inside(box), (colour,))
        if len(keys) > MOST_KEYS:
            raise Full("keys of six other colours lie in this box")
        hand, opened, broken, lying = self.state
        self.go_on((without(hand, colour), opened, broken, changed(lying, box, keys)))

    def back(self):
        """Take back what was done last."""
        if len(self.past) == 0:
            raise NothingLeft("nothing is left to be taken back")
        self.state = self.past.pop()

    def hand(self):
        """The colours of the keys in the hand, rising."""
        return self.state[0]

    def opened(self):
        """The boxes that are open, rising."""
        return self.state[1]

    def broken(self):
        """The boxes that were broken, rising."""
        return self.state[2]

    def inside(self, box):
        """The colours of the keys that lie in a box, rising."""
        self.check_box(box)
        return self.state[3][box]

    def can_all(self):
        """Whether all shut boxes could be opened from now on without breaking."""
        boxes = [(self.locks_of(box), self.inside(box)) for box in range(len(self.house[0]))]
        return len(shut_boxes(boxes, self.hand(), self.opened())) == 0

    def __len__(self):
        return len(self.state[1])

    def __eq__(self, other):
        return isinstance(other, Kept) and self.house == other.house and self.state == other.state

    def locks_of(self, box):
        """The locks that a box has now."""
        return () if box in self.broken() else self.house[0][box][0]

    def check_box(self, box):
        """Refuse what is no box's number."""
        if not is_place(box, len(self.house[0])):
            raise NoBox("this is no box of the house")

    def check_shut(self, box):
        """Refuse what is no shut box."""
        self.check_box(box)
        if box in self.opened():
            raise Open("this box is open")

    def check_open(self, box):
        """Refuse what is no open box."""
        self.check_box(box)
        if box not in self.opened():
            raise Shut("this box is shut")

    def lift(self, box, broken):
        """Have a box open, and what lay in it in the hand."""
        hand = joined(self.hand(), self.inside(box))
        opened = joined(self.opened(), (box,))
        self.go_on((hand, opened, broken, changed(self.state[3], box, ())))

    def go_on(self, state):
        """Come to another state, so that it can be taken back."""
        self.past.append(self.state)
        self.state = state
