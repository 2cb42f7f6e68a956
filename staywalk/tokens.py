"""What is left of a walk, told by a token."""

from staywalk.bits import PLACES, place_of
from staywalk.errors import NoToken
from staywalk.wholes import is_whole


def is_from(thing, low):
    """Whether the thing is a whole number that is not below low."""
    return is_whole(thing) and thing >= low


def word_of(bound):
    """A bound of a token as a word."""
    return "-" if bound is None else str(bound)


class Token:
    """What all tokens have; not made by itself."""

    def __init__(self, kind, at, end):
        self.kind = kind
        self.at = at
        self.end = end

    def words(self):
        """The token as a text of three words."""
        return " ".join([self.kind, word_of(self.at), word_of(self.end)])


class BySlots(Token):
    """Holds the keys whose place is from at on and below end."""

    def __init__(self, at=0, end=65536):
        if not (is_from(at, 0) and is_from(end, at) and end <= PLACES):
            raise NoToken("a token by slots goes from a place up to one that is not below it")
        Token.__init__(self, "slots", at, end)

    def holds(self, key):
        """Whether the token holds the key."""
        return self.at <= place_of(key) < self.end


class Up(Token):
    """Holds the keys from at on and below end, where there is one."""

    def __init__(self, at=0, end=None):
        if not (is_from(at, 0) and (end is None or is_from(end, at))):
            raise NoToken("a token up goes from a key up to one that is not below it, or without an end")
        Token.__init__(self, "up", at, end)

    def holds(self, key):
        """Whether the token holds the key."""
        return self.at <= key and (self.end is None or key < self.end)


class Down(Token):
    """Holds the keys that are not above at, where there is one, and from end on."""

    def __init__(self, at=None, end=0):
        if not (is_from(end, 0) and (at is None or is_from(at, end))):
            raise NoToken("a token down goes from a key, or from above all, down to one that is not above it")
        Token.__init__(self, "down", at, end)

    def holds(self, key):
        """Whether the token holds the key."""
        return self.end <= key and (self.at is None or key <= self.at)
