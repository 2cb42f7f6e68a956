"""Points 17 to 19, and point 3 as far as it bears on staywalk.leaves."""

import random
import unittest

from staywalk.errors import NoKey, Twice
from staywalk.leaves import Leaves
from staywalk.wholes import is_whole

FORTY = 10 ** 40 - 1


def filled(keys):
    leaves = Leaves()
    for key in keys:
        leaves.add(key)
    return leaves


def all_told(leaves):
    """Whatever a Leaves tells of itself without a key being named."""
    return (leaves.many(), leaves.all_of(), leaves.from_on(0, 1000), leaves.down_from(None, 1000))


def from_both_sides(keys):
    """The keys from the outside in: least, greatest, second least, .."""
    half = len(keys) // 2
    told = []
    for low, high in zip(keys[:half], reversed(keys[half:])):
        told.extend([low, high])
    return told


# Name by name an order of four hundred keys.
ORDERS = {
    "rising": list(range(0, 1200, 3)),
    "falling": list(range(1197, -1, -3)),
    "from both sides": from_both_sides(list(range(0, 1200, 3))),
    "from the middle": from_both_sides(list(range(0, 1200, 3)))[::-1],
    "every seventh": [key * 7 % 400 * 3 for key in range(400)],
}


class Case(unittest.TestCase):

    def assert_leaves(self, leaves, kept):
        """Point 18 holds, and the keys kept are just these."""
        told = leaves.all_of()
        sizes = [len(leaf) for leaf in told]
        self.assertEqual([key for leaf in told for key in leaf], sorted(kept))
        self.assertTrue(all(1 <= size <= 8 for size in sizes), sizes)
        self.assertTrue(all(one + other >= 5 for one, other in zip(sizes, sizes[1:])), sizes)
        self.assertEqual(leaves.many(), len(kept))

    def assert_refused(self, leaves, deed, kind, key):
        ahead = all_told(leaves)
        with self.assertRaises(kind) as taken:
            deed(key)
        self.assertEqual(taken.exception.key, key)
        self.assertEqual(all_told(leaves), ahead)


class Keys(Case):

    def test_a_new_one(self):
        leaves = Leaves()
        self.assertEqual(leaves.many(), 0)
        self.assertEqual(leaves.all_of(), [])
        self.assertIs(leaves.has(0), False)

    def test_add_and_discard(self):
        leaves = Leaves()
        self.assertIsNone(leaves.add(6))
        self.assertIs(leaves.has(6), True)
        self.assertIs(leaves.has(5), False)
        self.assertIs(leaves.has(7), False)
        self.assertEqual((leaves.many(), leaves.all_of()), (1, [[6]]))
        self.assertIsNone(leaves.discard(6))
        self.assertIs(leaves.has(6), False)
        self.assertEqual((leaves.many(), leaves.all_of()), (0, []))

    def test_add_behind_a_discard(self):
        leaves = filled([6])
        leaves.discard(6)
        leaves.add(6)
        self.assertEqual(leaves.all_of(), [[6]])

    def test_keys_of_forty_figures(self):
        leaves = filled([FORTY, 0, 10 ** 39, FORTY - 1])
        self.assert_leaves(leaves, [0, 10 ** 39, FORTY - 1, FORTY])
        self.assertEqual(leaves.from_on(10 ** 39 + 1, 5), [FORTY - 1, FORTY])
        self.assert_refused(leaves, leaves.add, Twice, FORTY)
        leaves.discard(FORTY)
        self.assert_refused(leaves, leaves.discard, NoKey, FORTY)

    def test_a_key_that_is_kept_is_not_added(self):
        for many in (1, 2, 8, 9, 20, 400):
            leaves = filled(range(0, 3 * many, 3))
            for key in range(0, 3 * many, 3):
                self.assert_refused(leaves, leaves.add, Twice, key)

    def test_a_key_that_is_not_kept_is_not_discarded(self):
        for many in (0, 1, 2, 8, 9, 20, 400):
            leaves = filled(range(3, 3 * many + 3, 3))
            for key in [0, 1, 2] + list(range(4, 3 * many + 3, 3)) + [3 * many + 4, FORTY]:
                self.assert_refused(leaves, leaves.discard, NoKey, key)

    def test_a_discarded_key_is_refused(self):
        leaves = filled(range(30))
        for key in range(0, 30, 2):
            leaves.discard(key)
            self.assert_refused(leaves, leaves.discard, NoKey, key)
            self.assertIs(leaves.has(key), False)

    def test_two_have_nothing_in_common(self):
        one, other = Leaves(), Leaves()
        one.add(6)
        self.assertEqual(all_told(other), all_told(Leaves()))

    def test_kinds(self):
        leaves = filled(range(30))
        self.assertTrue(is_whole(leaves.many()))
        for told in (leaves.all_of(), leaves.from_on(0, 9), leaves.down_from(None, 9)):
            self.assertIs(type(told), list)
        for leaf in leaves.all_of():
            self.assertIs(type(leaf), list)


class Shape(Case):

    def test_each_order_of_adding(self):
        for name, keys in ORDERS.items():
            with self.subTest(order=name):
                self.assertEqual(len(set(keys)), 400)
                leaves, kept = Leaves(), []
                for key in keys:
                    leaves.add(key)
                    kept.append(key)
                    self.assert_leaves(leaves, kept)
                self.assertEqual([key for key in range(1200) if leaves.has(key)], list(range(0, 1200, 3)))

    def test_each_order_of_adding_with_each_order_of_discarding(self):
        for name, keys in ORDERS.items():
            for other, gone in ORDERS.items():
                with self.subTest(adding=name, discarding=other):
                    leaves, kept = filled(keys), set(keys)
                    for key in gone:
                        leaves.discard(key)
                        kept.discard(key)
                        self.assert_leaves(leaves, kept)
                    self.assertEqual(leaves.all_of(), [])

    def test_every_second_and_every_third(self):
        for name, keys in ORDERS.items():
            for step in (2, 3):
                for first in range(step):
                    with self.subTest(order=name, step=step, first=first):
                        leaves, kept = filled(keys), set(keys)
                        for key in sorted(keys)[first::step]:
                            leaves.discard(key)
                            kept.discard(key)
                            self.assert_leaves(leaves, kept)
                        for key in sorted(kept):
                            leaves.discard(key)
                            kept.discard(key)
                            self.assert_leaves(leaves, kept)

    def test_all_but_every_fourth_and_added_again(self):
        leaves, kept = filled(range(400)), set(range(400))
        for key in range(400):
            if key % 4 > 0:
                leaves.discard(key)
                kept.discard(key)
                self.assert_leaves(leaves, kept)
        for key in range(400):
            if key % 4 > 0:
                leaves.add(key)
                kept.add(key)
                self.assert_leaves(leaves, kept)

    def test_long_mixed_rows(self):
        for seed in range(6):
            chance = random.Random(seed)
            leaves, kept = Leaves(), set()
            for adds in (8, 2, 5, 9, 1):
                for step in range(150):
                    if kept and chance.randrange(10) >= adds:
                        key = chance.choice(sorted(kept))
                        leaves.discard(key)
                        kept.discard(key)
                    else:
                        key = chance.choice([key for key in range(410) if key not in kept])
                        leaves.add(key)
                        kept.add(key)
                    self.assert_leaves(leaves, kept)
                    self.assertIs(leaves.has(key), key in kept)


class Pages(Case):

    def assert_pages(self, leaves, kept):
        keys = [0, 1, 2, 3] + list(range(100, 130)) + sorted(kept)[-3:] + [2000, FORTY]
        for key in keys:
            above = sorted(one for one in kept if one >= key)
            below = sorted((one for one in kept if one <= key), reverse=True)
            for most in (1, 2, 7, 8, 9, 30, 400, 401, FORTY):
                self.assertEqual(leaves.from_on(key, most), above[:most])
                self.assertEqual(leaves.down_from(key, most), below[:most])
        for most in (1, 2, 7, 8, 9, 30, 400, 401, FORTY):
            self.assertEqual(leaves.down_from(None, most), sorted(kept, reverse=True)[:most])

    def test_four_keys(self):
        leaves = filled([10, 20, 30, 40])
        self.assertEqual(leaves.from_on(20, 2), [20, 30])
        self.assertEqual(leaves.from_on(21, 2), [30, 40])
        self.assertEqual(leaves.from_on(0, 1), [10])
        self.assertEqual(leaves.from_on(40, 5), [40])
        self.assertEqual(leaves.from_on(41, 5), [])
        self.assertEqual(leaves.down_from(20, 2), [20, 10])
        self.assertEqual(leaves.down_from(39, 2), [30, 20])
        self.assertEqual(leaves.down_from(None, 1), [40])
        self.assertEqual(leaves.down_from(None, 9), [40, 30, 20, 10])
        self.assertEqual(leaves.down_from(99, 1), [40])
        self.assertEqual(leaves.down_from(9, 5), [])
        self.assertEqual(leaves.down_from(0, 5), [])

    def test_no_keys(self):
        for leaves in (Leaves(), filled([])):
            self.assertEqual(leaves.from_on(0, 1), [])
            self.assertEqual(leaves.from_on(FORTY, 10), [])
            self.assertEqual(leaves.down_from(0, 1), [])
            self.assertEqual(leaves.down_from(None, 10), [])

    def test_the_key_0(self):
        leaves = filled([0, 5])
        self.assertEqual(leaves.from_on(0, 9), [0, 5])
        self.assertEqual(leaves.down_from(0, 9), [0])
        self.assertEqual(leaves.down_from(4, 9), [0])

    def test_each_order_of_adding(self):
        for name, keys in ORDERS.items():
            with self.subTest(order=name):
                self.assert_pages(filled(keys), set(keys))

    def test_behind_discards(self):
        for name, keys in ORDERS.items():
            for step in (2, 3, 5):
                leaves = filled(keys)
                for key in keys[::step]:
                    leaves.discard(key)
                self.assert_pages(leaves, set(keys) - set(keys[::step]))

    def test_few_keys(self):
        for many in range(1, 20):
            self.assert_pages(filled(range(100, 100 + 2 * many, 2)), set(range(100, 100 + 2 * many, 2)))

    def test_most_somewhat_beyond_is_not_refused(self):
        leaves = filled(range(30))
        self.assertEqual((leaves.from_on(3, 0), leaves.down_from(3, 0), leaves.down_from(None, 0)), ([], [], []))


class Lists(Case):
    """Point 3: what is told is the asker's own."""

    def test_lists_changed_by_the_asker_change_nothing(self):
        for many in (0, 1, 3, 8, 9, 50):
            leaves = filled(range(many))
            ahead = all_told(leaves)
            leaves.all_of().append([99])
            for leaf in leaves.all_of():
                leaf.append(99)
                leaf.reverse()
            leaves.from_on(0, 5).append(99)
            leaves.down_from(None, 5).clear()
            leaves.from_on(0, 1000).reverse()
            self.assertEqual(all_told(leaves), ahead)
            self.assertIs(leaves.has(99), False)

    def test_lists_that_were_told_stay_as_they_are(self):
        leaves = filled(range(0, 30, 2))
        every, up, down = leaves.all_of(), leaves.from_on(4, 9), leaves.down_from(None, 9)
        copies = ([list(leaf) for leaf in every], list(up), list(down))
        for key in range(1, 30, 2):
            leaves.add(key)
        for key in range(30):
            leaves.discard(key)
        self.assertEqual((every, up, down), copies)

    def test_asked_again_the_answer_is_the_same(self):
        leaves = filled(range(50))
        self.assertEqual(all_told(leaves), all_told(leaves))


if __name__ == "__main__":
    unittest.main()
