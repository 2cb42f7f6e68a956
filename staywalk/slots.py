"""Keys with values in a row of slots that grows and shrinks slot by slot.

A row of another size is not filled at once: while the old row and the new one
stand side by side, each put and each drop moves one slot of the old one.
"""

from staywalk.bits import PLACES, place_of, slot_at, slot_of, stretch_of
from staywalk.errors import NoKey

LEAST_SIZE = 4
GREATEST_SIZE = 256


def empty_row(size):
    """A row of so many slots, each a dict of its keys and their values."""
    return [{} for slot in range(size)]


class Slots:
    """A table of keys with values."""

    def __init__(self):
        # One row, or the old one and the new one.
        self.table = [empty_row(LEAST_SIZE)]
        self.shifted = 0
        self.kept = 0

    def put(self, key, value):
        """Keep the key with this value."""
        self.move_slot()
        cell = self.cell_of(key)
        if key not in cell:
            self.kept += 1
        cell[key] = value
        self.begin_row()

    def drop(self, key):
        """Keep the key no more."""
        # Asked ahead of the first step, as a refused drop moves nothing.
        if not self.has(key):
            raise NoKey(key)
        self.move_slot()
        self.cell_of(key).pop(key)
        self.kept -= 1
        self.begin_row()

    def get(self, key):
        """The value of the key."""
        cell = self.cell_of(key)
        if key not in cell:
            raise NoKey(key)
        return cell[key]

    def has(self, key):
        """Whether the key is kept."""
        return key in self.cell_of(key)

    def many(self):
        """How many keys are kept."""
        return self.kept

    def rows(self):
        """The sizes of the rows, the old one first."""
        return [len(row) for row in self.table]

    def moved(self):
        """How many slots of the old row were moved."""
        return self.shifted

    def cells(self):
        """A tuple (size, slot, keys) for each slot in which a key lies."""
        told = []
        for row in self.table:
            for slot, cell in enumerate(row):
                if len(cell) > 0:
                    told.append((len(row), slot, sorted(cell)))
        return told

    def span(self, low, high):
        """The keys with their values whose place is from low on and below high, by place, then by key."""
        found = []
        reached = max(low, 0)
        end = min(high, PLACES)
        while reached < end:
            found.extend(self.lying_at(reached))
            reached = self.stop(reached)
        # A stretch may begin ahead of low and end behind high.
        inside = sorted([one for one in found if low <= one[0] < high])
        return [(one[1], one[2]) for one in inside]

    def stop(self, place):
        """Where the stretch of this place ends in the row with the fewer slots."""
        size = min(self.rows())
        return stretch_of(slot_at(place, size), size)[1]

    def cell_of(self, key):
        """The slot's dict in which the key lies, or would lie if it were kept."""
        old = self.table[0]
        slot = slot_of(key, len(old))
        if slot >= self.shifted:
            return old[slot]
        new = self.table[1]
        return new[slot_of(key, len(new))]

    def lying_at(self, place):
        """A tuple (place, key, value) for each key in the stretch that stop tells the end of."""
        size = min(self.rows())
        found = []
        for row in self.table:
            # In the row with more slots the same stretch is made up of two, one size apart.
            for slot in range(slot_at(place, size), len(row), size):
                for key, value in row[slot].items():
                    found.append((place_of(key), key, value))
        return found

    def move_slot(self):
        """The first step of a put or a drop: where two rows stand, the next slot of the old one is moved."""
        if len(self.table) == 1:
            return
        old = self.table[0]
        new = self.table[1]
        for key, value in old[self.shifted].items():
            new[slot_of(key, len(new))][key] = value
        old[self.shifted] = {}
        self.shifted += 1
        if self.shifted == len(old):
            self.table = [new]
            self.shifted = 0

    def begin_row(self):
        """The last step of a put or a drop: where one row stands and its size fits no more, a new one begins."""
        if len(self.table) == 2:
            return
        size = len(self.table[0])
        if self.kept > size and size < GREATEST_SIZE:
            self.table.append(empty_row(size * 2))
        elif 4 * self.kept < size and size > LEAST_SIZE:
            self.table.append(empty_row(size // 2))
