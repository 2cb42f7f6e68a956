"""What the document tells of a house and its walks, written in another way, for the tests to compare with."""

import functools

from staywalk.house import House
from staywalk.tokens import BySlots, Down, Up

FORTY = 10 ** 40 - 1
KINDS = (BySlots, Up, Down)


@functools.cache
def place(key):
    return int(f"{key % 65536:016b}"[::-1], 2)


def holds(token, key):
    """Whether a token, or None, holds the key."""
    if token is None:
        return False
    if isinstance(token, BySlots):
        return place(key) in range(token.at, token.end)
    if isinstance(token, Up):
        return not (key < token.at or (token.end is not None and key >= token.end))
    return not (key < token.end or (token.at is not None and key > token.at))


def in_order(token, keys):
    """The keys in the order of a walk."""
    if isinstance(token, BySlots):
        return sorted(keys, key=lambda key: (place(key), key))
    return sorted(keys, reverse=isinstance(token, Down))


def page(table, sizes, token, many=10):
    """What an ask tells of a table, its slots in rows of these sizes: the rows, and the next token's words or None."""
    keys = in_order(token, [key for key in table if holds(token, key)])
    if isinstance(token, BySlots):
        at = reached(keys, 65536 // min(sizes), token, many)
        told = [key for key in keys if at is None or place(key) < at]
    else:
        told = keys[:many]
        at = None
        if len(keys) > many:
            at = told[-1] - 1 if isinstance(token, Down) else told[-1] + 1
    rows = [(key, table[key]) for key in told]
    return (rows, None if at is None else type(token)(at, token.end).words())


def reached(keys, width, token, many):
    """Where an ask by slots ends, stretches being so wide; None where the walk is at its end."""
    stops = [stop for stop in range(width, 65536 + width, width) if stop > token.at]
    for gone, stop in enumerate(stops, 1):
        if stop >= token.end:
            return None
        if gone == 4 * many or len([key for key in keys if place(key) < stop]) >= many:
            return stop


def words(token):
    return None if token is None else token.words()


def told(answer):
    """An answer of ask with the next token's words in its place."""
    return (answer[0], words(answer[1]))


def behind(rows):
    """The keys and values that a house has behind these rows of its diary."""
    table = {}
    for row in rows:
        if row[0] == "put":
            table[row[1]] = row[2]
        elif row[0] == "drop":
            table.pop(row[1])
    return table


def table_of(house):
    return {key: house.get(key) for leaf in house.leaves.all_of() for key in leaf}


def value(key):
    return key * 3 - 40


def filled(keys):
    house = House()
    for key in keys:
        house.put(key, value(key))
    return house


def doubling():
    """Two rows of slots, of 8 and 16, three slots moved."""
    return filled(range(12))


def halving():
    """Two rows of slots, of 8 and 4, three slots moved."""
    house = filled(range(5))
    for again in range(4):
        house.put(4, 4)
    for key in (0, 1, 2, 3):
        house.drop(key)
    for key in (1, 6, 7):
        house.put(key, value(key))
    return house


def crowded():
    """64 slots, all keys in the first one."""
    house = filled(range(0, 40 * 256, 256))
    for again in range(64):
        house.put(0, value(0))
    return house


def one_place():
    """Keys of one place, others around them."""
    return filled([6 + 65536 * j for j in (5, 0, 3, 1, 2, 4)] + [2, 10, FORTY, FORTY - 65536])


def houses():
    """Houses of all sorts, by name."""
    return {
        "empty": House(),
        "one": filled([6]),
        "four": filled(range(4)),
        "begun": filled(range(5)),
        "doubling": doubling(),
        "halving": halving(),
        "crowded": crowded(),
        "one place": one_place(),
        "wide": filled([j * j * 7919 for j in range(70)]),
        "great": filled(range(3, 1203, 3)),
        "forty figures": filled([FORTY - j * 10 ** 37 for j in range(30)]),
    }


def deed(house, chance, keys, most=400):
    """Put or drop one of the keys."""
    key = chance.choice(keys)
    if house.has(key) and (chance.random() < 0.5 or house.many() >= most):
        house.drop(key)
    elif house.many() < most:
        house.put(key, chance.randrange(-99, 100))
