"""Points 9 to 16, and point 3 as far as it bears on staywalk.slots."""

import functools
import random
import unittest

from staywalk.errors import NoKey
from staywalk.slots import Slots
from staywalk.wholes import is_whole

SIZES = [4, 8, 16, 32, 64, 128, 256]
FORTY = 10 ** 40 - 1


@functools.cache
def place(key):
    return int(f"{key % 65536:016b}"[::-1], 2)


class Plain:
    """What the document tells of a Slots, kept as a plain table and the sizes of its rows."""

    def __init__(self):
        self.table = {}
        self.sizes = [4]
        self.moved = 0

    def put(self, key, value):
        self.first_step()
        self.table[key] = value
        self.last_step()

    def drop(self, key):
        self.first_step()
        del self.table[key]
        self.last_step()

    def first_step(self):
        if len(self.sizes) == 2:
            self.moved += 1
            if self.moved == self.sizes[0]:
                self.sizes, self.moved = self.sizes[1:], 0

    def last_step(self):
        if len(self.sizes) == 1:
            size, many = self.sizes[0], len(self.table)
            if many > size and size != 256:
                self.sizes.append(size * 2)
            elif many * 4 < size and size != 4:
                self.sizes.append(size // 2)

    def where(self, key):
        """The number of the row, its size, and the slot in it."""
        old = key % self.sizes[0]
        if len(self.sizes) == 1 or old >= self.moved:
            return (0, self.sizes[0], old)
        return (1, self.sizes[1], key % self.sizes[1])

    def cells(self):
        found = {}
        for key in sorted(self.table):
            found.setdefault(self.where(key), []).append(key)
        return [(size, slot, found[(row, size, slot)]) for row, size, slot in sorted(found)]

    def span(self, low, high):
        inside = [key for key in self.table if low <= place(key) < high]
        return [(key, self.table[key]) for key in sorted(inside, key=lambda key: (place(key), key))]

    def stop(self, at):
        width = 65536 // min(self.sizes)
        return (at // width + 1) * width


def all_told(slots):
    """Whatever a Slots tells of itself without a key being named."""
    stops = [slots.stop(at) for at in range(0, 65536, 256)]
    return (slots.rows(), slots.moved(), slots.many(), slots.cells(), slots.span(0, 65536), stops)


def filled(keys):
    slots = Slots()
    for key in keys:
        slots.put(key, key + 1)
    return slots


def doubling():
    """Two rows, of 8 and 16, three slots moved."""
    return filled(range(12))


def halving():
    """Two rows, of 8 and 4, three slots moved, with keys in both."""
    slots = filled(range(5))
    for again in range(4):
        slots.put(4, 5)
    for key in (0, 1, 2, 3):
        slots.drop(key)
    for key in (1, 6, 7):
        slots.put(key, key + 1)
    return slots


def states():
    return [Slots(), filled([6]), filled(range(4)), filled(range(5)), doubling(), halving(), filled(range(300))]


class Case(unittest.TestCase):

    def assert_rows(self, slots, rows, moved):
        self.assertEqual((slots.rows(), slots.moved()), (rows, moved))

    def assert_as_plain(self, slots, plain):
        self.assertEqual(slots.rows(), plain.sizes)
        self.assertEqual(slots.moved(), plain.moved)
        self.assertEqual(slots.many(), len(plain.table))
        self.assertEqual(slots.cells(), plain.cells())
        self.assertEqual(slots.span(0, 65536), plain.span(0, 65536))

    def assert_refused(self, slots, key):
        """get and drop refuse the key, and nothing is changed by it."""
        ahead = all_told(slots)
        for deed in (slots.get, slots.drop):
            with self.assertRaises(NoKey) as taken:
                deed(key)
            self.assertEqual(taken.exception.key, key)
            self.assertEqual(all_told(slots), ahead)
        self.assertIs(slots.has(key), False)


class Table(Case):

    def test_a_new_one(self):
        slots = Slots()
        self.assert_rows(slots, [4], 0)
        self.assertEqual(slots.many(), 0)
        self.assertEqual(slots.cells(), [])
        self.assertEqual(slots.span(0, 65536), [])
        self.assertIs(slots.has(0), False)

    def test_put_and_get(self):
        slots = Slots()
        self.assertIsNone(slots.put(6, 60))
        self.assertEqual(slots.get(6), 60)
        self.assertIs(slots.has(6), True)
        self.assertIs(slots.has(2), False)
        self.assertEqual(slots.many(), 1)

    def test_put_again_takes_the_place_of_the_value(self):
        slots = Slots()
        for value in (60, 61, 61, -1):
            slots.put(6, value)
            self.assertEqual(slots.get(6), value)
            self.assertEqual(slots.many(), 1)
            self.assertEqual(slots.span(0, 65536), [(6, value)])

    def test_put_again_while_two_rows_stand(self):
        for make in (doubling, halving):
            for key in [key for size, slot, keys in make().cells() for key in keys]:
                slots = make()
                many = slots.many()
                slots.put(key, 777)
                self.assertEqual((slots.get(key), slots.many()), (777, many))

    def test_drop(self):
        slots = filled([5, 6])
        self.assertIsNone(slots.drop(6))
        self.assertIs(slots.has(6), False)
        self.assertIs(slots.has(5), True)
        self.assertEqual(slots.many(), 1)
        self.assertEqual(slots.span(0, 65536), [(5, 6)])

    def test_put_behind_a_drop(self):
        slots = filled([6])
        slots.drop(6)
        slots.put(6, 8)
        self.assertEqual((slots.get(6), slots.many()), (8, 1))

    def test_keys_of_one_place(self):
        slots = Slots()
        slots.put(65542, 2)
        slots.put(6, 1)
        self.assertEqual((slots.get(6), slots.get(65542), slots.many()), (1, 2, 2))
        self.assertEqual(slots.cells(), [(4, 2, [6, 65542])])
        slots.drop(6)
        self.assertEqual((slots.has(6), slots.get(65542), slots.many()), (False, 2, 1))
        self.assert_refused(slots, 6)

    def test_values_of_all_sorts(self):
        slots = Slots()
        values = (-1, 0, 1, -65536, FORTY, -FORTY)
        for key, value in enumerate(values):
            slots.put(key, value)
        self.assertEqual([slots.get(key) for key in range(len(values))], list(values))

    def test_keys_of_forty_figures(self):
        slots = Slots()
        keys = [FORTY, FORTY - 65536, FORTY - 1, 10 ** 39, 0]
        for key in keys:
            slots.put(key, -key)
        self.assertEqual([slots.get(key) for key in keys], [-key for key in keys])
        told = [0, 10 ** 39, FORTY - 1, FORTY - 65536, FORTY]
        self.assertEqual(slots.span(0, 65536), [(key, -key) for key in told])
        slots.drop(FORTY)
        self.assert_refused(slots, FORTY)
        self.assertEqual(slots.get(FORTY - 65536), 65536 - FORTY)

    def test_a_key_that_is_not_kept_is_refused(self):
        for slots in states():
            for key in (1000, 65536 + 1000, FORTY):
                self.assert_refused(slots, key)

    def test_a_key_in_the_slot_of_another_is_refused(self):
        for slots in states():
            for key in (65536, 65536 + 6, 256 * 7):
                self.assert_refused(slots, key)

    def test_a_dropped_key_is_refused(self):
        for slots in states():
            for size, slot, keys in slots.cells()[:5]:
                slots.drop(keys[0])
                self.assert_refused(slots, keys[0])

    def test_two_have_nothing_in_common(self):
        one, other = Slots(), Slots()
        one.put(6, 1)
        self.assertIs(other.has(6), False)
        self.assertEqual(all_told(other), all_told(Slots()))


class Steps(Case):

    def test_the_documents_example(self):
        slots = filled(range(4))
        self.assert_rows(slots, [4], 0)
        slots.put(4, 0)
        self.assert_rows(slots, [4, 8], 0)
        self.assertEqual(slots.stop(0), 16384)
        slots.put(5, 0)
        self.assert_rows(slots, [4, 8], 1)
        slots.drop(5)
        self.assert_rows(slots, [4, 8], 2)
        slots.put(4, 1)
        self.assert_rows(slots, [4, 8], 3)
        self.assertEqual(slots.stop(0), 16384)
        slots.put(4, 2)
        self.assert_rows(slots, [8], 0)
        self.assertEqual(slots.stop(0), 8192)

    def test_new_keys_double_the_row_up_to_256_and_no_further(self):
        slots = Slots()
        for many in range(1, 401):
            slots.put(many * 31, 0)
            size = max([size for size in SIZES if size < many], default=0)
            if many <= 4:
                self.assert_rows(slots, [4], 0)
            elif size < 256:
                self.assert_rows(slots, [size, 2 * size], many - size - 1)
            else:
                self.assert_rows(slots, [256], 0)
        self.assertEqual(slots.many(), 400)

    def test_as_many_keys_as_slots_begin_no_row(self):
        slots = filled(range(5))
        for again in range(4):
            slots.put(0, again)
        for key in (5, 6, 7):
            slots.put(key, 0)
            self.assert_rows(slots, [8], 0)
        slots.put(8, 0)
        self.assert_rows(slots, [8, 16], 0)

    def test_as_many_keys_as_a_quarter_of_the_slots_begin_no_row(self):
        slots = filled(range(5))
        for again in range(4):
            slots.put(0, again)
        for key in (4, 3, 2):
            slots.drop(key)
            self.assert_rows(slots, [8], 0)
        slots.drop(1)
        self.assert_rows(slots, [8, 4], 0)

    def test_drops_halve_the_row_down_to_4_and_no_further(self):
        slots = filled(range(400))
        for key in range(400, 64, -1):
            slots.drop(key - 1)
            self.assert_rows(slots, [256], 0)
        slots.drop(63)
        self.assert_rows(slots, [256, 128], 0)
        for key in range(63):
            slots.drop(key)
            self.assert_rows(slots, [256, 128], key + 1)
        self.assertEqual(slots.many(), 0)
        moved = 63
        for size in (256, 128, 64, 32, 16, 8):
            for done in range(moved + 1, size):
                self.put_or_drop(slots, 9)
                self.assert_rows(slots, [size, size // 2], done)
            self.put_or_drop(slots, 9)
            self.assert_rows(slots, [size // 2, size // 4] if size > 8 else [4], 0)
            moved = 0
        for again in range(20):
            self.put_or_drop(slots, 9)
            self.assert_rows(slots, [4], 0)

    def put_or_drop(self, slots, key):
        if slots.has(key):
            slots.drop(key)
        else:
            slots.put(key, 0)

    def test_a_put_of_a_kept_key_moves_a_slot_too(self):
        slots = filled(range(5))
        for moved in (1, 2, 3):
            slots.put(0, 1)
            self.assert_rows(slots, [4, 8], moved)
        slots.put(0, 1)
        self.assert_rows(slots, [8], 0)

    def test_a_drop_moves_a_slot_too(self):
        slots = filled(range(5))
        for moved in (1, 2, 3):
            slots.drop(moved)
            self.assert_rows(slots, [4, 8], moved)
        slots.drop(0)
        # One key is left, so that the row of 8 is the old one at once.
        self.assert_rows(slots, [8, 4], 0)

    def test_a_put_may_begin_a_row_of_half_the_size(self):
        slots = filled(range(9))
        for key in range(7):
            slots.drop(key)
        self.assert_rows(slots, [8, 16], 7)
        slots.put(7, 0)
        self.assert_rows(slots, [16, 8], 0)

    def test_a_drop_may_begin_a_row_of_twice_the_size(self):
        slots = filled(range(5))
        for key in (0, 1, 2, 3):
            slots.drop(key)
        self.assert_rows(slots, [8, 4], 0)
        for key in range(10, 17):
            slots.put(key, 0)
        self.assert_rows(slots, [8, 4], 7)
        slots.drop(10)
        self.assertEqual(slots.many(), 7)
        self.assert_rows(slots, [4, 8], 0)

    def test_nothing_happens_but_by_puts_and_drops(self):
        slots = filled(range(5))
        for again in range(10):
            all_told(slots)
            slots.has(0)
            slots.get(0)
            self.assert_rows(slots, [4, 8], 0)

    def test_a_refused_drop_moves_nothing(self):
        for slots in (filled(range(5)), doubling(), halving()):
            ahead = all_told(slots)
            for again in range(10):
                self.assertRaises(NoKey, slots.drop, 1000)
                self.assertRaises(NoKey, slots.get, 1000)
            self.assertEqual(all_told(slots), ahead)


class WhereKeysLie(Case):

    def test_slot_by_slot_while_the_row_doubles(self):
        slots = filled([0, 1, 2, 3, 4])
        self.assertEqual(slots.cells(), [(4, 0, [0, 4]), (4, 1, [1]), (4, 2, [2]), (4, 3, [3])])
        slots.put(0, 0)
        self.assertEqual(slots.cells(), [(4, 1, [1]), (4, 2, [2]), (4, 3, [3]), (8, 0, [0]), (8, 4, [4])])
        # Slot 0 was moved, so 12 goes into the new row; slot 3 was not, so 7 stays in the old one.
        slots.put(12, 0)
        self.assertEqual(slots.cells(), [(4, 2, [2]), (4, 3, [3]), (8, 0, [0]), (8, 1, [1]), (8, 4, [4, 12])])
        slots.put(7, 0)
        self.assertEqual(
            slots.cells(), [(4, 3, [3, 7]), (8, 0, [0]), (8, 1, [1]), (8, 2, [2]), (8, 4, [4, 12])],
        )
        slots.put(0, 0)
        self.assertEqual(
            slots.cells(),
            [(8, 0, [0]), (8, 1, [1]), (8, 2, [2]), (8, 3, [3]), (8, 4, [4, 12]), (8, 7, [7])],
        )

    def test_slot_by_slot_while_the_row_halves(self):
        slots = halving()
        self.assert_rows(slots, [8, 4], 3)
        self.assertEqual(slots.cells(), [(8, 4, [4]), (8, 6, [6]), (8, 7, [7]), (4, 1, [1])])
        slots.put(2, 0)
        self.assertEqual(slots.cells(), [(8, 4, [4]), (8, 6, [6]), (8, 7, [7]), (4, 1, [1]), (4, 2, [2])])
        slots.put(2, 0)
        self.assertEqual(slots.cells(), [(8, 6, [6]), (8, 7, [7]), (4, 0, [4]), (4, 1, [1]), (4, 2, [2])])
        slots.drop(1)
        self.assertEqual(slots.cells(), [(8, 6, [6]), (8, 7, [7]), (4, 0, [4]), (4, 2, [2])])
        slots.put(2, 0)
        self.assertEqual(slots.cells(), [(8, 7, [7]), (4, 0, [4]), (4, 2, [2, 6])])
        slots.put(2, 0)
        self.assertEqual(slots.cells(), [(4, 0, [4]), (4, 2, [2, 6]), (4, 3, [7])])

    def test_keys_of_a_slot_rise(self):
        slots = filled([65544, 8, 0, 65536])
        self.assertEqual(slots.cells(), [(4, 0, [0, 8, 65536, 65544])])

    def test_kinds(self):
        for slots in states():
            self.assertIs(type(slots.rows()), list)
            self.assertTrue(all(is_whole(size) for size in slots.rows()))
            self.assertTrue(is_whole(slots.moved()) and is_whole(slots.many()) and is_whole(slots.stop(0)))
            self.assertIs(type(slots.cells()), list)
            for cell in slots.cells():
                self.assertIs(type(cell), tuple)
                self.assertEqual([type(part) for part in cell], [int, int, list])
                self.assertNotEqual(cell[2], [])
            self.assertIs(type(slots.span(0, 65536)), list)
            for row in slots.span(0, 65536):
                self.assertEqual((type(row), len(row)), (tuple, 2))


class Span(Case):

    def test_by_place_then_by_key(self):
        slots = filled([1, 65537, 6, 65542, 131078, 3, 0])
        self.assertEqual([key for key, value in slots.span(0, 65536)], [0, 6, 65542, 131078, 1, 65537, 3])
        self.assertEqual(slots.span(24576, 32769), [(6, 7), (65542, 65543), (131078, 131079), (1, 2), (65537, 65538)])

    def test_bounds_at_a_keys_own_place(self):
        for slots in states():
            for key, value in slots.span(0, 65536):
                at = place(key)
                self.assertIn((key, value), slots.span(at, at + 1))
                self.assertIn((key, value), slots.span(at, 65536))
                self.assertIn((key, value), slots.span(0, at + 1))
                self.assertNotIn((key, value), slots.span(0, at))
                self.assertNotIn((key, value), slots.span(at + 1, 65536))

    def test_the_first_and_the_last_place(self):
        slots = filled([0, 65535, 65536])
        self.assertEqual(slots.span(0, 1), [(0, 1), (65536, 65537)])
        self.assertEqual(slots.span(65535, 65536), [(65535, 65536)])
        self.assertEqual(slots.span(1, 65535), [])

    def test_nothing_where_high_is_not_above_low(self):
        for slots in states():
            for low in (0, 1, 8192, 24576, 32768, 65535, 65536):
                for high in (0, 1, 8192, 24576, 32768, 65535, 65536):
                    if high <= low:
                        self.assertEqual(slots.span(low, high), [])

    def test_pieces_put_end_to_end_are_the_whole(self):
        for slots in states():
            for cuts in ([0, 65536], [0, 1, 65535, 65536], [0, 100, 16384, 24576, 24577, 50000, 65536]):
                told = []
                for low, high in zip(cuts, cuts[1:]):
                    told.extend(slots.span(low, high))
                self.assertEqual(told, slots.span(0, 65536))

    def test_bounds_somewhat_beyond_are_not_refused(self):
        for slots in states():
            whole = slots.span(0, 65536)
            self.assertEqual(slots.span(-1, 65537), whole)
            self.assertEqual(slots.span(-70000, 140000), whole)
            self.assertEqual(slots.span(65536, 65540), [])


class Stop(Case):

    def test_every_place_of_each_state(self):
        for slots in states():
            width = 65536 // min(slots.rows())
            for at in range(65536):
                told = slots.stop(at)
                if told != (at // width + 1) * width:
                    self.fail((slots.rows(), at, told))

    def test_from_stop_to_stop(self):
        for slots in states():
            steps, reached = 0, 0
            while reached < 65536:
                ahead, reached, steps = reached, slots.stop(reached), steps + 1
                self.assertTrue(ahead < reached <= 65536)
            self.assertEqual((reached, steps), (65536, min(slots.rows())))

    def test_the_row_with_the_fewer_slots_counts(self):
        self.assertEqual(doubling().rows(), [8, 16])
        self.assertEqual([doubling().stop(at) for at in (0, 8191, 8192, 65535)], [8192, 8192, 16384, 65536])
        self.assertEqual(halving().rows(), [8, 4])
        self.assertEqual([halving().stop(at) for at in (0, 16383, 16384, 65535)], [16384, 16384, 32768, 65536])


class LongRows(Case):
    """A Slots answers as a plain table does, behind each of many puts and drops."""

    def run_deeds(self, seed, keys, turns):
        """Each turn is a number of deeds, and how many out of ten of them are puts."""
        chance = random.Random(seed)
        slots, plain, sizes = Slots(), Plain(), set()
        for deeds, puts in turns:
            for step in range(deeds):
                if chance.randrange(10) < puts:
                    key, value = chance.choice(keys), chance.randrange(-1000, 1000)
                    slots.put(key, value)
                    plain.put(key, value)
                else:
                    # Mostly a key that is kept, lest few drops be done where few are.
                    key = chance.choice(list(plain.table) * (step % 8 > 0) or keys)
                    self.drop_in_both(slots, plain, key)
                self.assert_as_plain(slots, plain)
                self.assert_key(slots, plain, key)
                self.assert_bounds(slots, plain, chance)
                sizes.add(tuple(slots.rows()))
        for key in keys:
            self.assert_key(slots, plain, key)
        return sizes

    def drop_in_both(self, slots, plain, key):
        if key in plain.table:
            slots.drop(key)
            plain.drop(key)
        else:
            self.assertRaises(NoKey, slots.drop, key)

    def assert_key(self, slots, plain, key):
        self.assertIs(slots.has(key), key in plain.table)
        if key in plain.table:
            self.assertEqual(slots.get(key), plain.table[key])
        else:
            self.assertRaises(NoKey, slots.get, key)

    def assert_bounds(self, slots, plain, chance):
        low, high = chance.randrange(65537), chance.randrange(65537)
        self.assertEqual(slots.span(low, high), plain.span(low, high))
        self.assertEqual(slots.stop(low % 65536), plain.stop(low % 65536))

    def test_few_keys(self):
        sizes = set()
        for seed in range(5):
            sizes |= self.run_deeds(seed, list(range(20)), [(60, 7), (60, 2), (60, 8), (60, 1)])
        self.assertLessEqual({(4,), (8,), (4, 8), (8, 4), (8, 16), (16, 8)}, sizes)

    def test_keys_of_few_places(self):
        keys = [6 + 65536 * step for step in range(20)] + [65535 + 65536 * step for step in range(20)]
        for seed in range(3):
            self.run_deeds(seed, keys, [(80, 7), (80, 2), (80, 6)])

    def test_up_to_four_hundred_and_down_again(self):
        keys = [step * 163 for step in range(380)] + [FORTY - step * 7 for step in range(20)]
        sizes = self.run_deeds(11, keys, [(800, 10), (700, 2), (700, 4)])
        for size in SIZES[:-1]:
            self.assertIn((size, 2 * size), sizes)
            self.assertIn((2 * size, size), sizes)
        self.assertLessEqual({(4,), (256,)}, sizes)

    def test_each_key_lies_in_just_one_slot(self):
        chance = random.Random(5)
        slots, kept = Slots(), set()
        for step in range(600):
            key = chance.randrange(150)
            if key in kept and step % 300 > 150:
                slots.drop(key)
                kept.discard(key)
            else:
                slots.put(key, step)
                kept.add(key)
            lying = [key for size, slot, keys in slots.cells() for key in keys]
            self.assertEqual(sorted(lying), sorted(kept))


class Lists(Case):
    """Point 3: what is told is the asker's own."""

    def test_lists_changed_by_the_asker_change_nothing(self):
        for slots in states():
            ahead = all_told(slots)
            slots.rows().append(99)
            slots.rows()[0] = 5
            slots.cells().append((1, 2, [3]))
            for size, slot, keys in slots.cells():
                keys.append(-1)
            slots.span(0, 65536).append((1, 1))
            slots.cells().clear()
            slots.span(0, 65536).clear()
            self.assertEqual(all_told(slots), ahead)

    def test_lists_that_were_told_stay_as_they_are(self):
        slots = filled(range(5))
        rows, cells, span = slots.rows(), slots.cells(), slots.span(0, 65536)
        copies = (list(rows), [(size, slot, list(keys)) for size, slot, keys in cells], list(span))
        for key in range(5, 40):
            slots.put(key, 0)
        for key in range(40):
            slots.put(key, -1)
        for key in range(40):
            slots.drop(key)
        self.assertEqual((rows, cells, span), copies)

    def test_asked_again_the_answer_is_the_same(self):
        for slots in states():
            self.assertEqual(all_told(slots), all_told(slots))


if __name__ == "__main__":
    unittest.main()
