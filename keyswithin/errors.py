"""The refusals: each has a class of its own, straight under BoxError."""


class BoxError(ValueError):
    """Any refusal."""


class NoHouse(BoxError):
    """It is no house."""


class NoColour(BoxError):
    """It is no colour."""


class NoBoxes(BoxError):
    """It is no rising tuple of boxes of the house."""


class NoLaying(BoxError):
    """It is no laying."""


class NoNumber(BoxError):
    """It is no number such as is asked for."""


class NoRow(BoxError):
    """It is no row of exchanges."""


class NoBox(BoxError):
    """It is no number of a box of the house."""


class NoKey(BoxError):
    """It is no colour of which a key is in the hand."""


class Locks(BoxError):
    """Some box has more than one lock."""


class Unlike(BoxError):
    """The two layings are not of as many boxes."""


class Open(BoxError):
    """The box is open."""


class Shut(BoxError):
    """The box is shut."""


class Full(BoxError):
    """Keys of six other colours lie in the box."""


class NothingLeft(BoxError):
    """Nothing is left to be taken back."""


class TooMany(BoxError):
    """The house has more boxes than most."""

    def __init__(self, most):
        self.most = most


class Locked(BoxError):
    """No key to the lock of this colour is in the hand."""

    def __init__(self, colour):
        self.colour = colour
