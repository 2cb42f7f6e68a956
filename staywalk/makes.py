"""The makes of one key: what it had from which moment on."""


class Makes:
    """A rising row of tuples (moment, value), the value None for a drop."""

    def __init__(self):
        self.made = []

    def note(self, moment, value):
        """One make more, of a moment behind all those noted."""
        self.made.append((moment, value))

    def all_told(self):
        """The makes that were not swept, as a list."""
        return list(self.made)

    def value_at(self, moment):
        """What the key had at the moment; None where it had nothing."""
        for make in reversed(self.made):
            if make[0] <= moment:
                return make[1]
        return None

    def sweep(self, floor):
        """Throw away the makes that no moment from the floor on needs, and tell how many these were."""
        old = [make for make in self.made if make[0] <= floor]
        stay = [make for make in self.made if make[0] > floor]
        # The last of the old ones tells what the key has at the floor; a drop tells no more than no make does.
        if len(old) > 0 and old[-1][1] is not None:
            stay.insert(0, old[-1])
        thrown = len(self.made) - len(stay)
        self.made = stay
        return thrown
