"""A house as a text, and back."""

from staywalk.errors import NoText
from staywalk.house import House
from staywalk.words import read_whole


def row_of(key, value):
    """A key with its value as a row."""
    return f"{key} {value}"


def rows_of(house):
    """The keys of a house with their values, rising, a row each."""
    keys = house.leaves.from_on(0, house.many())
    return [row_of(key, house.get(key)) for key in keys]


def shown(house):
    """The house as a text."""
    return "\n".join(rows_of(house))


def read_house(text):
    """A new house in which the rows of the text were put."""
    if not isinstance(text, str):
        raise NoText("a house is read from a text")
    house = House()
    # Without a key there is no row, while split would tell one without signs.
    if text == "":
        return house
    # The first key is then held to be from 0 on, and each other one above the one ahead.
    last = -1
    for row in text.split("\n"):
        words = row.split(" ")
        if len(words) != 2:
            raise NoText("a row has a key and a value")
        key = read_whole(words[0])
        if key <= last:
            raise NoText("the keys are from 0 on and rise from row to row")
        house.put(key, read_whole(words[1]))
        last = key
    return house
