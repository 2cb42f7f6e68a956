"""The refusals of the program, one class for each.

The words of an error never show the key or the moment: writing out a number
of very many figures is refused by Python itself.
"""


class WalkError(ValueError):
    """Any refusal."""


class NoToken(WalkError):
    """What was handed in is no token."""


class NoText(WalkError):
    """What was handed in is no text of the asked form."""


class NoRow(WalkError):
    """What was said is no row of the desk."""


class NoPart(WalkError):
    """The token can't be parted."""


class OutOfTurn(WalkError):
    """The deed is not the next one in its order."""


class NoKey(WalkError):
    """The key is not kept."""

    def __init__(self, key):
        WalkError.__init__(self, "the key is not kept")
        self.key = key


class Twice(WalkError):
    """The key is kept already."""

    def __init__(self, key):
        WalkError.__init__(self, "the key is kept already")
        self.key = key


class TooOld(WalkError):
    """The moment is below the floor."""

    def __init__(self, moment):
        WalkError.__init__(self, "the moment is below the floor")
        self.moment = moment


class NoMoment(WalkError):
    """The moment is not held, or did not come yet."""

    def __init__(self, moment):
        WalkError.__init__(self, "there is no such moment")
        self.moment = moment
