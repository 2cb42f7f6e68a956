"""Reading the rows that a desk is told."""

from staywalk.errors import NoRow, NoText, NoToken
from staywalk.tokens import BySlots
from staywalk.words import WORDS_OF_TOKEN, read_token, read_whole

# What stands behind the first word of each row.
FORMS = {
    "put": ("KEY", "VALUE"),
    "drop": ("KEY",),
    "get": ("KEY",),
    "many": (),
    "page": ("TOKEN", "MANY"),
    "hold": (),
    "free": ("MOMENT",),
    "sweep": (),
    "now": (),
    "at": ("KEY", "MOMENT"),
    "past": ("MOMENT", "TOKEN", "MANY"),
    "copy": ("TOKEN",),
    "open": (),
    "read": ("MANY",),
    "close": (),
    "follow": ("STEPS",),
    "show": (),
    "covers": ("KEY",),
    "total": (),
    "stop": (),
    "keep": (),
}
MOST_KEYS = 100


def read_order(row):
    """The first word of the row, and a dict of the things behind it."""
    if not isinstance(row, str):
        raise NoRow("a row is a text")
    words = row.split(" ")
    first = words[0]
    if first not in FORMS:
        raise NoRow("no row begins so")
    given = read_things(FORMS[first], words[1:])
    # The slots of an old moment are not kept, so there is no walk by them.
    if first == "past" and isinstance(given["TOKEN"], BySlots):
        raise NoRow("a walk through an old moment goes up or down")
    return (first, given)


def read_things(form, words):
    """The things of a form, by name, as the words tell them."""
    given = {}
    at = 0
    for thing in form:
        width = WORDS_OF_TOKEN if thing == "TOKEN" else 1
        given[thing] = read_thing(thing, " ".join(words[at:at + width]))
        at += width
    if at != len(words):
        raise NoRow("the row has too many words")
    return given


def read_thing(thing, text):
    """The token or the number that the text tells."""
    try:
        if thing == "TOKEN":
            return read_token(text)
        number = read_whole(text)
    except (NoText, NoToken):
        raise NoRow("a number or a token of the row is none") from None
    if not may_be(thing, number):
        raise NoRow("a number of the row is out of its bounds")
    return number


def may_be(thing, number):
    """Whether the thing may be this number."""
    if thing == "VALUE":
        return True
    if thing == "MANY":
        return 1 <= number <= MOST_KEYS
    return number >= 0
