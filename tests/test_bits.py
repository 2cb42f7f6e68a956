"""Points 5 to 8, and point 3 as far as it bears on staywalk.bits."""

import unittest

from staywalk.bits import halves, mark_of, place_of, slot_at, slot_of, stretch_of, turned
from staywalk.wholes import is_whole

SIZES = (4, 8, 16, 32, 64, 128, 256)
FORTY = 10 ** 40 - 1

# Each bit alone and their neighbours, some in between, and some beyond the places.
KEYS = sorted(
    {2 ** bit + step for bit in range(17) for step in (-1, 0, 1)}
    | set(range(0, 70000, 977))
    | {65542, 131071, 10 ** 39, FORTY - 65536, FORTY - 1, FORTY}
)


def slots_of_all_sizes():
    return [(slot, size) for size in SIZES for slot in range(size)]


class Case(unittest.TestCase):

    def assert_pair(self, thing):
        self.assertIs(type(thing), tuple)
        self.assertEqual(len(thing), 2)
        self.assertTrue(is_whole(thing[0]) and is_whole(thing[1]))

    def assert_place(self, thing):
        self.assertTrue(is_whole(thing))
        self.assertTrue(0 <= thing <= 65535)


class Turned(Case):

    def test_the_documents_numbers(self):
        self.assertEqual(turned(1), 32768)
        self.assertEqual(turned(6), 24576)

    def test_ends(self):
        self.assertEqual(turned(0), 0)
        self.assertEqual(turned(65535), 65535)

    def test_one_bit_alone(self):
        for bit in range(16):
            self.assertEqual(turned(2 ** bit), 2 ** (15 - bit))

    def test_all_bits_but_one(self):
        for bit in range(16):
            self.assertEqual(turned(65535 - 2 ** bit), 65535 - 2 ** (15 - bit))

    def test_each_bit_of_many_numbers(self):
        for number in range(0, 65536, 7):
            told = turned(number)
            self.assert_place(told)
            for bit in range(16):
                self.assertEqual((told >> (15 - bit)) & 1, (number >> bit) & 1)

    def test_every_number_against_its_written_bits(self):
        for number in range(65536):
            self.assertEqual(turned(number), int(f"{number:016b}"[::-1], 2))

    def test_twice_tells_the_number_again(self):
        for number in range(65536):
            self.assertEqual(turned(turned(number)), number)


class MarksAndPlaces(Case):

    def test_marks(self):
        for key, mark in ((0, 0), (6, 6), (65535, 65535), (65536, 0), (65542, 6), (131071, 65535)):
            self.assertEqual(mark_of(key), mark)

    def test_the_documents_places(self):
        self.assertEqual(place_of(6), 24576)
        self.assertEqual(place_of(65542), 24576)

    def test_place_is_the_mark_turned(self):
        for key in KEYS:
            self.assertEqual(place_of(key), int(f"{key % 65536:016b}"[::-1], 2))

    def test_both_are_whole_numbers_in_bounds(self):
        for key in KEYS:
            self.assert_place(mark_of(key))
            self.assert_place(place_of(key))

    def test_multiples_of_65536_apart_have_the_same(self):
        for key in KEYS:
            for times in (1, 2, 3, 65536, 10 ** 35):
                self.assertEqual(mark_of(key + times * 65536), mark_of(key))
                self.assertEqual(place_of(key + times * 65536), place_of(key))

    def test_unlike_lowest_bits_have_unlike_ones(self):
        for low in (0, 6, FORTY - 65535):
            keys = range(low, low + 65536)
            self.assertEqual(len({mark_of(key) for key in keys}), 65536)
            self.assertEqual(len({place_of(key) for key in keys}), 65536)

    def test_keys_of_forty_figures(self):
        self.assertEqual(mark_of(FORTY), 65535)
        self.assertEqual(place_of(FORTY), 65535)
        # 10 ** 39 is 2 ** 39 times an odd number, so its sixteen lowest bits are unset.
        self.assertEqual(mark_of(10 ** 39), 0)
        self.assertEqual(mark_of(10 ** 39 + 6), 6)
        self.assertEqual(place_of(10 ** 39 + 6), 24576)


class Slots(Case):

    def test_slot_lies_in_the_row(self):
        for size in SIZES:
            for key in KEYS:
                slot = slot_of(key, size)
                self.assertTrue(is_whole(slot))
                self.assertTrue(0 <= slot < size)
                self.assertEqual(slot, key % 65536 % size)

    def test_slots_of_a_row_of_four(self):
        for key, slot in ((0, 0), (3, 3), (4, 0), (6, 2), (65535, 3), (65536, 0), (65542, 2)):
            self.assertEqual(slot_of(key, 4), slot)

    def test_slot_at_of_every_place(self):
        for size in SIZES:
            for slot in range(size):
                low, high = stretch_of(slot, size)
                self.assertEqual({slot_at(place, size) for place in range(low, high)}, {slot})

    def test_slot_at_of_the_first_and_the_last_place(self):
        for slot, size in slots_of_all_sizes():
            low, high = stretch_of(slot, size)
            for place in (low, high - 1):
                self.assertTrue(is_whole(slot_at(place, size)))
                self.assertEqual(slot_at(place, size), slot)

    def test_slot_at_of_a_keys_place(self):
        for size in SIZES:
            for key in KEYS:
                self.assertEqual(slot_at(place_of(key), size), slot_of(key, size))

    def test_slot_at_in_a_row_of_four(self):
        for place, slot in ((0, 0), (16383, 0), (16384, 2), (32767, 2), (32768, 1), (49152, 3), (65535, 3)):
            self.assertEqual(slot_at(place, 4), slot)


class Stretches(Case):

    def test_the_documents_row_of_four(self):
        told = [stretch_of(slot, 4) for slot in range(4)]
        self.assertEqual(told, [(0, 16384), (32768, 49152), (16384, 32768), (49152, 65536)])

    def test_is_a_tuple_of_the_slots_width(self):
        for slot, size in slots_of_all_sizes():
            told = stretch_of(slot, size)
            self.assert_pair(told)
            self.assertEqual(told[1] - told[0], 65536 // size)

    def test_holds_the_places_of_just_the_slots_keys(self):
        for slot, size in slots_of_all_sizes():
            low, high = stretch_of(slot, size)
            for key in KEYS:
                self.assertEqual(low <= place_of(key) < high, slot_of(key, size) == slot)

    def test_a_row_goes_from_0_to_65536_without_a_gap(self):
        for size in SIZES:
            reached = 0
            for low, high in sorted(stretch_of(slot, size) for slot in range(size)):
                self.assertEqual(low, reached)
                reached = high
            self.assertEqual(reached, 65536)


class Halves(Case):

    def test_is_the_tuple_of_slot_and_slot_plus_size(self):
        for slot, size in slots_of_all_sizes():
            if size < 256:
                self.assert_pair(halves(slot, size))
                self.assertEqual(halves(slot, size), (slot, slot + size))

    def test_their_stretches_make_up_the_slots_the_lower_first(self):
        for slot, size in slots_of_all_sizes():
            if size < 256:
                low, high = stretch_of(slot, size)
                first, second = halves(slot, size)
                middle = (low + high) // 2
                self.assertEqual(stretch_of(first, 2 * size), (low, middle))
                self.assertEqual(stretch_of(second, 2 * size), (middle, high))


class AskedAgain(Case):

    def test_the_answers_are_the_same(self):
        def answers():
            told = [(turned(key % 65536), mark_of(key), place_of(key)) for key in KEYS]
            told.extend((slot_of(key, size), slot_at(key % 65536, size)) for size in SIZES for key in KEYS)
            told.extend((stretch_of(slot, size), halves(slot, size)) for slot, size in slots_of_all_sizes())
            return told
        self.assertEqual(answers(), answers())


if __name__ == "__main__":
    unittest.main()
