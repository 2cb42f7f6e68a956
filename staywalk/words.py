"""Reading numbers and tokens from texts."""

from staywalk.errors import NoText, NoToken
from staywalk.tokens import BySlots, Down, Up

FIGURES = "0123456789"
MOST_FIGURES = 60
WORDS_OF_TOKEN = 3


def are_figures(text):
    """Whether the text is a number from 0 on, written by its figures."""
    if not 1 <= len(text) <= MOST_FIGURES:
        return False
    if text.startswith("0") and text != "0":
        return False
    # Python reads other signs as figures too, so each one is looked up.
    return all([sign in FIGURES for sign in text])


def read_whole(text):
    """The number that the text writes."""
    if not isinstance(text, str):
        raise NoText("a number is read from a text")
    below = text.startswith("-")
    figures = text[1:] if below else text
    if not are_figures(figures) or (below and figures == "0"):
        raise NoText("the text writes no number")
    return int(text)


def read_bound(word):
    """The bound of a token that the word tells, a whole number or None."""
    if word == "-":
        return None
    try:
        return read_whole(word)
    except NoText:
        raise NoToken("a bound of a token is a number or -") from None


def read_token(text):
    """The token whose words the text is."""
    if not isinstance(text, str):
        raise NoToken("a token is read from a text")
    words = text.split(" ")
    if len(words) != WORDS_OF_TOKEN:
        raise NoToken("a token has three words parted by single blanks")
    # Where no None may be the token itself refuses it.
    at = read_bound(words[1])
    end = read_bound(words[2])
    if words[0] == "slots":
        return BySlots(at, end)
    if words[0] == "up":
        return Up(at, end)
    if words[0] == "down":
        return Down(at, end)
    raise NoToken("there is no such kind of token")
