"""Places of keys, and the stretches of places that the slots of a row have.

A slot is the low bits of a mark. Turned, these are the high bits of a place:
so the keys of a slot lie side by side by place in a row of any size, and a
row of another size only joins or halves the stretches.
"""

BITS = 16
PLACES = 65536


def turned(number):
    """The number, from 0 to 65535, with its sixteen bits in the other order."""
    told = 0
    rest = number
    for step in range(BITS):
        told = told * 2 + rest % 2
        rest = rest // 2
    return told


def mark_of(key):
    """The lowest sixteen bits of the key."""
    return key % PLACES


def place_of(key):
    """Where the key stands in a walk by slots."""
    return turned(mark_of(key))


def slot_of(key, size):
    """The slot in which the key lies in a row of this size."""
    return mark_of(key) % size


def stretch_of(slot, size):
    """The places of the slot's keys: a tuple (low, high), high being left out."""
    low = turned(slot)
    return (low, low + PLACES // size)


def slot_at(place, size):
    """The slot in whose stretch the place lies."""
    return turned(place) % size


def halves(slot, size):
    """The slots of a row of twice the size that make up this one, the lower stretch first."""
    return (slot, slot + size)
