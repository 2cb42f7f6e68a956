"""Keys in order, in leaves of a few keys each.

The leaves are a row of rising lists. Each has from 1 to 8 keys, and two that
are neighbours have 5 or more together, so that few keys lie in few leaves.
"""

from staywalk.errors import NoKey, Twice

MOST_IN_LEAF = 8
LEAST_IN_TWO = 5


class Leaves:
    """Keys, each once, in order."""

    def __init__(self):
        self.leaves = []

    def add(self, key):
        """Keep the key."""
        if self.has(key):
            raise Twice(key)
        if len(self.leaves) == 0:
            self.leaves.append([key])
            return
        # A key above all others goes into the last leaf.
        at = min(self.leaf_of(key), len(self.leaves) - 1)
        leaf = self.leaves[at]
        leaf.insert(len([one for one in leaf if one < key]), key)
        if len(leaf) > MOST_IN_LEAF:
            self.part_leaf(at)

    def discard(self, key):
        """Keep the key no more."""
        if not self.has(key):
            raise NoKey(key)
        at = self.leaf_of(key)
        self.leaves[at].remove(key)
        if len(self.leaves[at]) == 0:
            # Each neighbour had 4 keys or more beside this leaf's one, so these two need no joining.
            self.leaves.pop(at)
            return
        self.join_small(at)
        self.join_small(at - 1)

    def has(self, key):
        """Whether the key is kept."""
        at = self.leaf_of(key)
        return at < len(self.leaves) and key in self.leaves[at]

    def many(self):
        """How many keys are kept."""
        return sum([len(leaf) for leaf in self.leaves])

    def all_of(self):
        """The leaves, a list of lists."""
        return [list(leaf) for leaf in self.leaves]

    def from_on(self, key, most):
        """The least keys that are not below the key, rising, at most so many."""
        told = []
        at = self.leaf_of(key)
        while at < len(self.leaves) and len(told) < most:
            told.extend([one for one in self.leaves[at] if one >= key])
            at += 1
        return told[:most]

    def down_from(self, key, most):
        """The greatest keys that are not above the key, falling, at most so many; of all where it is None."""
        told = []
        at = len(self.leaves) - 1
        if key is not None:
            at = min(self.leaf_of(key), at)
        while at >= 0 and len(told) < most:
            told.extend([one for one in reversed(self.leaves[at]) if key is None or one <= key])
            at -= 1
        return told[:most]

    def leaf_of(self, key):
        """The number of the first leaf whose last key is not below the key; behind all where there is none."""
        low = 0
        high = len(self.leaves)
        while low < high:
            middle = (low + high) // 2
            if self.leaves[middle][-1] < key:
                low = middle + 1
            else:
                high = middle
        return low

    def part_leaf(self, at):
        """Make two leaves of one that has too many keys."""
        leaf = self.leaves[at]
        # 9 keys go 4 and 5: whatever neighbour stands beside the 4 makes them 5.
        middle = len(leaf) // 2
        self.leaves[at] = leaf[:middle]
        self.leaves.insert(at + 1, leaf[middle:])

    def join_small(self, at):
        """Make one leaf of this one and the next one, where both are there and have too few keys together."""
        if at < 0 or at + 1 == len(self.leaves):
            return
        both = self.leaves[at] + self.leaves[at + 1]
        if len(both) < LEAST_IN_TWO:
            self.leaves[at] = both
            self.leaves.pop(at + 1)
