"""A house: keys with values, the diary of what was done to them, and its old moments."""

from staywalk.asks import keys_of_page
from staywalk.errors import NoMoment, TooOld
from staywalk.leaves import Leaves
from staywalk.makes import Makes
from staywalk.slots import Slots


class House:
    """Keys with values that are put and dropped, one deed a moment."""

    def __init__(self):
        self.now = 0
        self.floor = 0
        self.slots = Slots()
        self.leaves = Leaves()
        # The rows of the diary.
        self.written = []
        self.marks = 0
        # The makes of each key that was ever put.
        self.past = {}
        # How many times each moment is held, of those that are.
        self.holders = {}

    def put(self, key, value):
        """Give the key the value, and tell the moment."""
        if not self.slots.has(key):
            self.leaves.add(key)
        self.slots.put(key, value)
        return self.done(("put", key, value), value)

    def drop(self, key):
        """Take the key away, and tell the moment."""
        # The slots refuse a key that isn't there, ahead of any change.
        self.slots.drop(key)
        self.leaves.discard(key)
        return self.done(("drop", key), None)

    def get(self, key):
        """The value of the key."""
        return self.slots.get(key)

    def has(self, key):
        """Whether the key is there."""
        return self.slots.has(key)

    def many(self):
        """How many keys are there."""
        return self.slots.many()

    def lay_mark(self):
        """Lay the next mark into the diary, and tell its number."""
        self.marks += 1
        self.written.append(("mark", self.marks))
        return self.marks

    def diary(self, low=0):
        """The rows of the diary from number low on, counted from 0."""
        return self.written[max(low, 0):]

    def makes(self, key):
        """The makes of the key that were not swept, rising."""
        return self.past[key].all_told() if key in self.past else []

    def hold(self):
        """Hold the moment that is now, once more where it is held already, and tell it."""
        self.holders[self.now] = self.holders.get(self.now, 0) + 1
        return self.now

    def let_go(self, moment):
        """Hold the moment once less."""
        if moment not in self.holders:
            raise NoMoment(moment)
        self.holders[moment] -= 1
        if self.holders[moment] == 0:
            self.holders.pop(moment)

    def held(self):
        """The moments that are held, rising."""
        return sorted(self.holders)

    def sweep(self):
        """Throw away the makes that no moment that is held, nor any from now on, needs; tell how many these were."""
        self.floor = min(self.held(), default=self.now)
        thrown = 0
        for of_key in self.past.values():
            thrown += of_key.sweep(self.floor)
        return thrown

    def was(self, key, moment):
        """What the key had at the moment; None where it had nothing."""
        self.refuse_outside(moment)
        return self.value_then(key, moment)

    def page_at(self, moment, token, many=10):
        """The page of a walk up or down through the keys that had a value at the moment, and the next token or None."""
        self.refuse_outside(moment)
        then = Leaves()
        for key in self.past:
            if self.value_then(key, moment) is not None:
                then.add(key)
        page = keys_of_page(then, token, many)
        return ([(key, self.value_then(key, moment)) for key in page[0]], page[1])

    def done(self, row, value):
        """Write down a deed, and tell its moment; the value is None for a drop."""
        key = row[1]
        self.now += 1
        self.written.append(row)
        self.past.setdefault(key, Makes()).note(self.now, value)
        return self.now

    def refuse_outside(self, moment):
        """Refuse a moment that can't be looked at."""
        if moment < self.floor:
            raise TooOld(moment)
        if moment > self.now:
            raise NoMoment(moment)

    def value_then(self, key, moment):
        """What the key had at a moment from the floor on; None where it had nothing."""
        return self.past[key].value_at(moment) if key in self.past else None
