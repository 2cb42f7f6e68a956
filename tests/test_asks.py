"""Points 21 to 24, point 4 as far as it speaks of walks, and point 3 as far as it bears on staywalk.asks."""

import random
import unittest

import plain
from plain import FORTY, KINDS, filled, value
from staywalk.asks import ask, parts
from staywalk.errors import NoPart, WalkError
from staywalk.house import House
from staywalk.tokens import BySlots, Down, Up


def rows_of(keys):
    return [(key, value(key)) for key in keys]


def all_of(house):
    """Whatever a house tells of itself."""
    slots = house.slots
    made = [house.makes(key) for key in plain.table_of(house)]
    return (house.now, house.floor, house.diary(), house.held(), slots.rows(), slots.moved(), slots.cells(),
            slots.span(0, 65536), house.leaves.all_of(), made)


class Case(unittest.TestCase):

    def assert_told(self, answer, keys, words):
        """The page has these keys with their values, and the next token these words."""
        self.assertEqual(plain.told(answer), (rows_of(keys), words))

    def assert_as_plain(self, house, token, many):
        answer = ask(house, token, many)
        expected = plain.page(plain.table_of(house), house.slots.rows(), token, many)
        self.assertEqual(plain.told(answer), expected, (token.words(), many))
        if answer[1] is not None:
            self.assertIs(type(answer[1]), type(token))
        return answer


class Kinds(Case):

    def test_a_tuple_of_a_list_of_tuples_and_a_token(self):
        house = filled(range(30))
        for kind in KINDS:
            answer = ask(house, kind(), 3)
            self.assertIs(type(answer), tuple)
            self.assertEqual(len(answer), 2)
            self.assertIs(type(answer[0]), list)
            for row in answer[0]:
                self.assertIs(type(row), tuple)
                self.assertEqual([type(one) for one in row], [int, int])
            self.assertIs(type(answer[1]), kind)
            self.assertEqual(answer[1].end, kind().end)

    def test_an_empty_house(self):
        for kind in KINDS:
            for many in (1, 10, 100):
                self.assertEqual(ask(House(), kind(), many), ([], None))

    def test_arguments_by_name_and_left_out(self):
        house = filled(range(0, 60, 2))
        for token in (Up(5), Down(50, 3), BySlots(9)):
            ten = plain.told(ask(house, token, 10, None))
            self.assertEqual(plain.told(ask(house, token)), ten)
            self.assertEqual(plain.told(ask(house=house, token=token, many=10, sieve=None)), ten)
            self.assertEqual(plain.told(ask(house, token, sieve=lambda key, got: True)), ten)

    def test_all_kinds_and_houses_as_the_document_tells(self):
        bounds = (0, 1, 2, 6, 7, 12, 255, 256, 257, 16384, 24576, 24577, 32767, 49152, 65535, 65536)
        for name, house in plain.houses().items():
            for many in (1, 2, 3, 10, 100):
                for at in bounds:
                    for end in bounds:
                        if at <= end:
                            self.assert_as_plain(house, BySlots(at, end), many)
                            self.assert_as_plain(house, Up(at, end), many)
                            self.assert_as_plain(house, Down(end, at), many)
                    self.assert_as_plain(house, Up(at), many)
                    self.assert_as_plain(house, Down(None, at), many)


class GoingUp(Case):

    def setUp(self):
        self.house = filled(range(40, 0, -3))    # 1, 4, .. 40

    def test_many(self):
        self.assert_told(ask(self.house, Up()), range(1, 29, 3), "up 29 -")
        self.assert_told(ask(self.house, Up(), 1), [1], "up 2 -")
        self.assert_told(ask(self.house, Up(), 3), [1, 4, 7], "up 8 -")
        self.assert_told(ask(self.house, Up(), 13), range(1, 38, 3), "up 38 -")
        self.assert_told(ask(self.house, Up(), 14), range(1, 41, 3), None)
        self.assert_told(ask(self.house, Up(), 15), range(1, 41, 3), None)
        self.assert_told(ask(self.house, Up(), 100), range(1, 41, 3), None)

    def test_many_of_a_hundred(self):
        house = filled(range(101))
        self.assert_told(ask(house, Up(), 100), range(100), "up 100 -")
        self.assert_told(ask(house, Up(1), 100), range(1, 101), None)

    def test_at_a_key_and_beside_one(self):
        self.assert_told(ask(self.house, Up(4), 2), [4, 7], "up 8 -")
        self.assert_told(ask(self.house, Up(5), 2), [7, 10], "up 11 -")
        self.assert_told(ask(self.house, Up(3), 2), [4, 7], "up 8 -")
        self.assert_told(ask(self.house, Up(40)), [40], None)
        self.assert_told(ask(self.house, Up(41)), [], None)
        self.assert_told(ask(self.house, Up(FORTY)), [], None)

    def test_end_at_a_key_and_beside_one(self):
        self.assert_told(ask(self.house, Up(4, 10), 2), [4, 7], None)
        self.assert_told(ask(self.house, Up(4, 11), 2), [4, 7], "up 8 11")
        self.assert_told(ask(self.house, Up(4, 11), 3), [4, 7, 10], None)
        self.assert_told(ask(self.house, Up(4, 8), 2), [4, 7], None)
        self.assert_told(ask(self.house, Up(4, 7), 2), [4], None)
        self.assert_told(ask(self.house, Up(0, 1)), [], None)
        self.assert_told(ask(self.house, Up(0, 2)), [1], None)

    def test_at_is_end(self):
        for at in (0, 1, 2, 40, 41, FORTY):
            self.assert_told(ask(self.house, Up(at, at)), [], None)

    def test_an_end_beyond_all_keys(self):
        self.assert_told(ask(self.house, Up(37, FORTY), 1), [37], f"up 38 {FORTY}")
        self.assert_told(ask(self.house, Up(38, FORTY), 1), [40], None)

    def test_keys_of_forty_figures(self):
        house = filled([FORTY, FORTY - 1, 0])
        self.assert_told(ask(house, Up(), 2), [0, FORTY - 1], f"up {FORTY} -")
        self.assert_told(ask(house, Up(FORTY), 2), [FORTY], None)
        self.assert_told(ask(house, Up(FORTY + 1), 2), [], None)

    def test_neighbouring_keys(self):
        house = filled([5, 6])
        self.assert_told(ask(house, Up(5, 7), 1), [5], "up 6 7")
        self.assert_told(ask(house, Up(6, 7), 1), [6], None)


class GoingDown(Case):

    def setUp(self):
        self.house = filled(range(1, 41, 3))    # 1, 4, .. 40

    def test_many(self):
        self.assert_told(ask(self.house, Down()), range(40, 12, -3), "down 12 0")
        self.assert_told(ask(self.house, Down(), 1), [40], "down 39 0")
        self.assert_told(ask(self.house, Down(), 3), [40, 37, 34], "down 33 0")
        self.assert_told(ask(self.house, Down(), 13), range(40, 3, -3), "down 3 0")
        self.assert_told(ask(self.house, Down(), 14), range(40, 0, -3), None)
        self.assert_told(ask(self.house, Down(), 100), range(40, 0, -3), None)

    def test_at_a_key_and_beside_one(self):
        self.assert_told(ask(self.house, Down(10), 2), [10, 7], "down 6 0")
        self.assert_told(ask(self.house, Down(9), 2), [7, 4], "down 3 0")
        self.assert_told(ask(self.house, Down(11), 2), [10, 7], "down 6 0")
        self.assert_told(ask(self.house, Down(1)), [1], None)
        self.assert_told(ask(self.house, Down(0)), [], None)
        self.assert_told(ask(self.house, Down(FORTY), 1), [40], "down 39 0")

    def test_end_at_a_key_and_beside_one(self):
        self.assert_told(ask(self.house, Down(10, 4), 2), [10, 7], "down 6 4")
        self.assert_told(ask(self.house, Down(10, 4), 3), [10, 7, 4], None)
        self.assert_told(ask(self.house, Down(10, 5), 2), [10, 7], None)
        self.assert_told(ask(self.house, Down(10, 10)), [10], None)
        self.assert_told(ask(self.house, Down(9, 8)), [], None)
        self.assert_told(ask(self.house, Down(None, 40)), [40], None)
        self.assert_told(ask(self.house, Down(None, 41)), [], None)
        self.assert_told(ask(self.house, Down(None, 37), 1), [40], "down 39 37")

    def test_down_to_key_0(self):
        house = filled([2, 1, 0])
        self.assert_told(ask(house, Down(), 1), [2], "down 1 0")
        self.assert_told(ask(house, Down(1), 1), [1], "down 0 0")
        self.assert_told(ask(house, Down(0), 1), [0], None)
        self.assert_told(ask(house, Down(), 2), [2, 1], "down 0 0")
        self.assert_told(ask(house, Down(), 3), [2, 1, 0], None)
        self.assert_told(ask(house, Down(None, 1), 1), [2], "down 1 1")

    def test_keys_of_forty_figures(self):
        house = filled([FORTY, FORTY - 1, 0])
        self.assert_told(ask(house, Down(), 1), [FORTY], f"down {FORTY - 1} 0")
        self.assert_told(ask(house, Down(FORTY - 1, FORTY - 1)), [FORTY - 1], None)


class Slotwise(Case):

    def test_one_row_of_four(self):
        house = filled(range(4))
        self.assert_told(ask(house, BySlots(), 1), [0], "slots 16384 65536")
        self.assert_told(ask(house, BySlots(), 2), [0, 2], "slots 32768 65536")
        self.assert_told(ask(house, BySlots(), 3), [0, 2, 1], "slots 49152 65536")
        self.assert_told(ask(house, BySlots(), 4), [0, 2, 1, 3], None)
        self.assert_told(ask(house, BySlots()), [0, 2, 1, 3], None)
        self.assert_told(ask(house, BySlots(), 100), [0, 2, 1, 3], None)

    def test_from_any_place(self):
        house = filled(range(4))
        self.assert_told(ask(house, BySlots(16384), 1), [2], "slots 32768 65536")
        self.assert_told(ask(house, BySlots(16383), 1), [2], "slots 32768 65536")
        # The stretch from 1 to 16384 has no key, so the walk goes on.
        self.assert_told(ask(house, BySlots(1), 1), [2], "slots 32768 65536")
        self.assert_told(ask(house, BySlots(16385), 1), [1], "slots 49152 65536")
        self.assert_told(ask(house, BySlots(49152), 1), [3], None)
        self.assert_told(ask(house, BySlots(49153), 1), [], None)
        self.assert_told(ask(house, BySlots(65535), 1), [], None)

    def test_to_any_end(self):
        house = filled(range(4))
        self.assert_told(ask(house, BySlots(0, 16384), 1), [0], None)
        self.assert_told(ask(house, BySlots(0, 1), 1), [0], None)
        self.assert_told(ask(house, BySlots(0, 16385), 1), [0], "slots 16384 16385")
        self.assert_told(ask(house, BySlots(16384, 16385), 1), [2], None)
        self.assert_told(ask(house, BySlots(1, 32768), 1), [2], None)
        self.assert_told(ask(house, BySlots(1, 16384), 1), [], None)
        self.assert_told(ask(house, BySlots(0, 32768), 5), [0, 2], None)

    def test_at_is_end(self):
        for house in (House(), filled(range(4)), plain.doubling(), plain.halving()):
            for at in (0, 1, 16384, 24576, 65535, 65536):
                self.assert_told(ask(house, BySlots(at, at)), [], None)
                self.assert_told(ask(house, BySlots(at, at), 1), [], None)

    def test_while_doubling(self):
        house = plain.doubling()
        self.assertEqual((house.slots.rows(), house.slots.moved()), ([8, 16], 3))
        # The stretches are those of the eight slots: 0 and 8 lie in one, in which the sixteen have two.
        self.assert_told(ask(house, BySlots(), 1), [0, 8], "slots 8192 65536")
        self.assert_told(ask(house, BySlots(8192), 1), [4], "slots 16384 65536")
        self.assert_told(ask(house, BySlots(4096), 1), [8], "slots 8192 65536")
        self.assert_told(ask(house, BySlots(0, 4096), 1), [0], None)
        self.assert_told(ask(house, BySlots()), [0, 8, 4, 2, 10, 6, 1, 9, 5, 3, 11], "slots 57344 65536")
        self.assert_told(ask(house, BySlots(57344)), [7], None)

    def test_while_halving(self):
        house = filled([])
        for key in (1, 4, 6, 7):
            house.put(key, value(key))
        one_row = plain.told(ask(house, BySlots(), 1))
        house = plain.halving()
        house.put(4, value(4))
        self.assertEqual((house.slots.rows(), house.slots.moved()), ([8, 4], 4))
        # The stretches are those of the four slots, as if the old row were gone.
        self.assertEqual(plain.told(ask(house, BySlots(), 1)), one_row)
        self.assert_told(ask(house, BySlots(), 1), [4], "slots 16384 65536")
        self.assert_told(ask(house, BySlots(), 2), [4, 6], "slots 32768 65536")
        self.assert_told(ask(house, BySlots(), 4), [4, 6, 1, 7], None)

    def test_more_keys_than_many_on_a_page(self):
        house = filled([0, 4, 8, 65536])
        self.assert_told(ask(house, BySlots(), 1), [0, 65536, 8, 4], "slots 16384 65536")
        self.assert_told(ask(house, BySlots(), 3), [0, 65536, 8, 4], "slots 16384 65536")
        self.assert_told(ask(house, BySlots(), 5), [0, 65536, 8, 4], None)

    def test_keys_that_have_one_place(self):
        house = filled([131078, 6, 65542])
        self.assert_told(ask(house, BySlots(), 1), [6, 65542, 131078], "slots 32768 65536")
        self.assert_told(ask(house, BySlots(24576, 24577), 1), [6, 65542, 131078], None)
        self.assert_told(ask(house, BySlots(24577), 1), [], None)
        self.assert_told(ask(house, BySlots(0, 24576), 1), [], None)

    def test_the_end_behind_four_times_many_stretches(self):
        house = plain.crowded()
        self.assertEqual(house.slots.rows(), [64])
        self.assert_told(ask(house, BySlots(256), 1), [], "slots 4096 65536")
        self.assert_told(ask(house, BySlots(4096), 1), [], "slots 8192 65536")
        self.assert_told(ask(house, BySlots(1024), 2), [], "slots 9216 65536")
        self.assert_told(ask(house, BySlots(256), 15), [], "slots 61440 65536")
        self.assert_told(ask(house, BySlots(256), 16), [], None)
        self.assert_told(ask(house, BySlots(61440), 1), [], None)
        self.assert_told(ask(house, BySlots(61439), 1), [], "slots 64512 65536")
        self.assert_told(ask(house, BySlots(256, 4096), 1), [], None)
        self.assert_told(ask(house, BySlots(256, 4097), 1), [], "slots 4096 4097")

    def test_keys_within_and_behind_the_stretches_gone_over(self):
        house = plain.crowded()
        # 32 has the place 1024, 16 has 2048, 8 has 4096: the second, the third and the fifth stretch.
        house.put(8, value(8))
        self.assert_told(ask(house, BySlots(256), 1), [], "slots 4096 65536")
        house.put(16, value(16))
        self.assert_told(ask(house, BySlots(256), 1), [16], "slots 3072 65536")
        self.assert_told(ask(house, BySlots(256), 2), [16, 8], "slots 5120 65536")

    def test_all_of_a_great_house_on_one_page(self):
        house = filled(range(300))
        answer = ask(house, BySlots(), 100)
        self.assertGreaterEqual(len(answer[0]), 100)
        self.assertLessEqual(len(answer[0]), 102)
        self.assert_as_plain(house, BySlots(), 100)


class Beyond(Case):
    """Numbers somewhat beyond the bounds are not refused."""

    def test_more_than_a_hundred(self):
        house = filled(range(200))
        self.assert_told(ask(house, Up(), 101), range(101), "up 101 -")
        self.assert_told(ask(house, Down(), 150), range(199, 49, -1), "down 49 0")
        self.assert_told(ask(house, Up(), 1000), range(200), None)
        self.assert_as_plain(house, BySlots(), 101)
        self.assertEqual(ask(house, BySlots(), 1000)[1], None)

    def test_none_or_fewer(self):
        house = filled(range(20))
        for many in (0, -1, -7):
            self.assert_told(ask(house, Up(5), many), [], "up 5 -")
            self.assert_told(ask(house, Down(7, 5), many), [], "down 7 5")
            self.assert_told(ask(house, Up(20), many), [], None)
            self.assert_told(ask(house, BySlots(), many), [0, 16], "slots 4096 65536")


class Sieve(Case):

    def asked(self, house, token, many, chosen):
        """The answer with a sieve, and what it was called with."""
        calls = []

        def sieve(key, got):
            calls.append((key, got))
            return chosen(key, got)

        return (ask(house, token, many, sieve), calls)

    def test_called_once_for_each_key_of_the_page_in_order(self):
        choices = (lambda key, got: True, lambda key, got: False, lambda key, got: key % 3 == 0, lambda key, got: got > 0)
        for name, house in plain.houses().items():
            for token in (BySlots(), BySlots(256, 40000), Up(), Up(2, 300), Down(), Down(500, 3)):
                for many in (1, 3, 10, 100):
                    for chosen in choices:
                        plainly = ask(house, token, many)
                        answer, calls = self.asked(house, token, many, chosen)
                        self.assertEqual(calls, plainly[0])
                        self.assertEqual(answer[0], [row for row in plainly[0] if chosen(*row)])
                        self.assertEqual(plain.words(answer[1]), plain.words(plainly[1]))

    def test_how_far_it_goes_with_all_left_out(self):
        house = filled(range(10))
        answer, calls = self.asked(house, Up(), 4, lambda key, got: False)
        self.assert_told(answer, [], "up 4 -")
        self.assertEqual(calls, rows_of(range(4)))
        answer, calls = self.asked(house, Down(), 4, lambda key, got: key == 8)
        self.assert_told(answer, [8], "down 5 0")
        self.assertEqual(calls, rows_of([9, 8, 7, 6]))

    def test_by_slots_all_keys_of_the_last_stretch(self):
        house = filled([0, 4, 8, 2])
        answer, calls = self.asked(house, BySlots(), 1, lambda key, got: key == 4)
        self.assert_told(answer, [4], "slots 16384 65536")
        self.assertEqual(calls, rows_of([0, 8, 4]))

    def test_not_called_where_the_page_has_none(self):
        for house, token in ((House(), BySlots()), (plain.crowded(), BySlots(256)), (filled([5]), Up(6))):
            answer, calls = self.asked(house, token, 1, lambda key, got: True)
            self.assertEqual((answer[0], calls), ([], []))


class Walks(Case):
    """Points 4 and 23."""

    def walk(self, house, first, chance, between):
        """Walk to the end with deeds between the asks; tell how many asks it took."""
        kept = {key for key in plain.table_of(house) if plain.holds(first, key)}
        seen = set()
        token = first
        asks = 0
        greatest = 0
        while token is not None:
            greatest = max(greatest, min(house.slots.rows()))
            many = chance.choice((1, 1, 2, 5, 10, 100))
            answer = self.assert_as_plain(house, token, many)
            asks += 1
            self.assert_just_what_is_left_no_more(house, token, answer)
            keys = [key for key, got in answer[0]]
            self.assertEqual(seen & set(keys), set())
            self.assertEqual(len(keys), len(set(keys)))
            self.assertEqual(answer[0], [(key, house.get(key)) for key in keys])
            seen |= set(keys)
            token = answer[1]
            between(house)
            kept &= set(plain.table_of(house)) | seen
        self.assertEqual(kept - seen, set())
        if isinstance(first, BySlots):
            self.assertLessEqual(asks, greatest)
        return asks

    def assert_just_what_is_left_no_more(self, house, token, answer):
        told = {key for key, got in answer[0]}
        for key in plain.table_of(house):
            if answer[1] is not None and answer[1].holds(key):
                self.assertTrue(token.holds(key))
            gone = token.holds(key) and not (answer[1] is not None and answer[1].holds(key))
            self.assertEqual(key in told, gone, (token.words(), key))

    def first_tokens(self, chance, most):
        low, high = sorted(chance.sample(range(most), 2))
        place_low, place_high = sorted(chance.sample(range(65537), 2))
        return [BySlots(), BySlots(place_low), BySlots(place_low, place_high), Up(), Up(low), Up(low, high),
                Down(), Down(high), Down(None, low), Down(high, low)]

    def test_nothing_done_between(self):
        chance = random.Random(23)
        for name, house in plain.houses().items():
            for token in self.first_tokens(chance, 900):
                self.walk(house, token, chance, lambda house: None)

    def test_puts_and_drops_between(self):
        for seed in range(40):
            chance = random.Random(seed)
            most = chance.choice((6, 20, 60, 300))
            keys = chance.choice((range(most * 2), [j * 64 for j in range(most * 2)], [j * 7919 for j in range(most * 2)]))
            house = House()
            for again in range(most):
                plain.deed(house, chance, keys, most)
            for token in self.first_tokens(chance, most * 100):
                number = chance.choice((1, 3, 20))
                self.walk(house, token, chance, lambda house: [plain.deed(house, chance, keys, most) for j in range(number)])

    def test_growing_and_shrinking_between(self):
        chance = random.Random(5)
        for first in (BySlots(), BySlots(300, 60000)):
            for keys in (range(400), range(0, 400 * 256, 256)):
                for rising in (True, False):
                    house = filled(keys[:6] if rising else keys)
                    ahead = list(keys[6:]) if rising else list(keys[:396])

                    def between(house):
                        for again in range(25):
                            if ahead and rising:
                                house.put(ahead.pop(), 1)
                            elif ahead:
                                house.drop(ahead.pop())

                    self.walk(house, first, chance, between)

    def test_asks_by_slots_no_more_than_slots(self):
        for house, slots in ((filled(range(4)), 4), (filled(range(300)), 256), (plain.doubling(), 8)):
            token = BySlots()
            asks = 0
            while token is not None:
                token = ask(house, token, 1)[1]
                asks += 1
            self.assertEqual(asks, slots)

    def test_a_key_put_again_is_not_told_again(self):
        for kind in KINDS:
            house = filled(range(8))
            rows, token = ask(house, kind(), 2)
            for key, got in rows:
                house.drop(key)
                house.put(key, 99)
            later = []
            while token is not None:
                page, token = ask(house, token, 2)
                later += page
            self.assertEqual(sorted(key for key, got in rows + later), list(range(8)))

    def test_values_are_those_of_the_ask(self):
        for kind in KINDS:
            house = filled(range(8))
            told = {}
            token = kind()
            round_number = 0
            while token is not None:
                rows, token = ask(house, token, 2)
                told.update(dict.fromkeys([key for key, got in rows], round_number))
                for key, got in rows:
                    self.assertEqual(got, value(key) + round_number)
                round_number += 1
                for key in range(8):
                    house.put(key, value(key) + round_number)
            self.assertEqual(sorted(told), list(range(8)))


class Parts(Case):

    def assert_parts(self, token, many):
        told = parts(token, many)
        self.assertIs(type(told), list)
        self.assertEqual(len(told), many)
        width = token.end - token.at
        for j, part in enumerate(told):
            self.assertIs(type(part), type(token))
            self.assertEqual(part.at, token.at + width * j // many)
            self.assertEqual(part.end, token.at + width * (j + 1) // many)
        return told

    def assert_each_key_once(self, token, told, keys):
        for key in keys:
            holders = [part for part in told if part.holds(key)]
            self.assertEqual(len(holders), 1 if token.holds(key) else 0, (token.words(), key))

    def test_written_out(self):
        self.assertEqual([part.words() for part in parts(Up(3, 13), 4)], ["up 3 5", "up 5 8", "up 8 10", "up 10 13"])
        self.assertEqual([part.words() for part in parts(BySlots(), 3)],
                         ["slots 0 21845", "slots 21845 43690", "slots 43690 65536"])
        self.assertEqual([part.words() for part in parts(Up(7, 9), 3)], ["up 7 7", "up 7 8", "up 8 9"])

    def test_one_part(self):
        self.assertEqual([part.words() for part in parts(Up(3, 13), 1)], ["up 3 13"])
        self.assertEqual([part.words() for part in parts(BySlots(5, 9), 1)], ["slots 5 9"])

    def test_up(self):
        for many in range(1, 61):
            for at, end in ((0, 0), (0, 1), (0, 59), (0, 60), (0, 61), (5, 9), (17, 17), (17, 1000)):
                token = Up(at, end)
                self.assert_each_key_once(token, self.assert_parts(token, many), range(max(at - 2, 0), min(end + 2, 90)))

    def test_by_slots(self):
        places = [plain.place(key) for key in range(0, 65536, 997)]
        for many in range(1, 61):
            for at, end in ((0, 65536), (0, 0), (65536, 65536), (7, 8), (100, 60000), (24576, 24577)):
                token = BySlots(at, end)
                self.assert_each_key_once(token, self.assert_parts(token, many), [0, 6, 65535, 65542] + places)

    def test_forty_figures(self):
        for many in (1, 2, 3, 7, 60):
            for at, end in ((0, FORTY), (FORTY, FORTY), (FORTY - 7, FORTY), (10 ** 39, FORTY), (12345, FORTY)):
                token = Up(at, end)
                told = self.assert_parts(token, many)
                bounds = [part.at for part in told] + [end]
                keys = [bound + step for bound in bounds for step in (-1, 0, 1) if bound + step >= 0]
                self.assert_each_key_once(token, told, keys)

    def test_refused(self):
        for token in (Up(), Up(5), Up(FORTY), Down(), Down(5), Down(None, 5), Down(9, 5), Down(5, 5), Down(0, 0)):
            for many in (1, 2, 60):
                with self.assertRaises(NoPart):
                    parts(token, many)
        self.assertTrue(issubclass(NoPart, WalkError))

    def test_beyond_the_bounds(self):
        self.assert_parts(Up(3, 1000), 61)
        self.assert_parts(BySlots(), 100)
        self.assertEqual(parts(Up(3, 13), 0), [])
        self.assertRaises(NoPart, parts, Down(), 0)
        self.assertRaises(NoPart, parts, Up(), 61)

    def test_arguments_by_name(self):
        self.assertEqual([part.words() for part in parts(token=Up(0, 4), many=2)], ["up 0 2", "up 2 4"])

    def test_walks_by_the_parts_put_together(self):
        house = plain.houses()["wide"]
        table = plain.table_of(house)
        for whole in (BySlots(), Up(0, 10 ** 6), BySlots(300, 50000)):
            for many in (1, 2, 7, 60):
                found = []
                for token in parts(whole, many):
                    while token is not None:
                        rows, token = ask(house, token, 3)
                        found += rows
                expected = [(key, table[key]) for key in plain.in_order(whole, table) if plain.holds(whole, key)]
                self.assertEqual(found, expected)


class Changes(Case):
    """Point 3."""

    def test_asking_changes_nothing(self):
        for name, house in plain.houses().items():
            ahead = all_of(house)
            for token in (BySlots(), BySlots(5, 40000), Up(), Up(3, 50), Down(), Down(50, 3)):
                words = token.words()
                once = plain.told(ask(house, token, 3))
                self.assertEqual(plain.told(ask(house, token, 3)), once)
                self.assertEqual(plain.told(ask(house, token, 3, lambda key, got: True)), once)
                self.assertEqual(token.words(), words)
            self.assertEqual(all_of(house), ahead)

    def test_a_page_is_the_askers_own(self):
        for kind in KINDS:
            house = filled(range(20))
            ahead = all_of(house)
            rows = ask(house, kind())[0]
            once = list(rows)
            rows.clear()
            rows.append("something")
            self.assertEqual(ask(house, kind())[0], once)
            self.assertEqual(all_of(house), ahead)
            again = ask(house, kind())[0]
            for key in range(20):
                house.drop(key)
            self.assertEqual(again, once)

    def test_parts_are_new_each_time(self):
        token = Up(3, 13)
        told = parts(token, 2)
        told.clear()
        self.assertEqual([part.words() for part in parts(token, 2)], ["up 3 8", "up 8 13"])
        self.assertEqual(token.words(), "up 3 13")

    def test_a_refused_parting_changes_nothing(self):
        token = Down(9, 5)
        self.assertRaises(NoPart, parts, token, 2)
        self.assertEqual(token.words(), "down 9 5")


if __name__ == "__main__":
    unittest.main()
