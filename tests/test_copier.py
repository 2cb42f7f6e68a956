"""Points 31 to 35, point 4 as far as it speaks of copies, and point 3 as far as it bears on staywalk.copier."""

import random
import unittest

import plain
from plain import FORTY, KINDS, filled, value
from staywalk.asks import ask, parts
from staywalk.copier import Copier
from staywalk.errors import OutOfTurn, WalkError
from staywalk.house import House
from staywalk.tokens import BySlots, Down, Up

ALL = 10 ** 6
KEYS = range(0, 900, 7)


def told(copier):
    """Whatever a copier tells of itself."""
    covered = [copier.covers(key) for key in KEYS]
    left, place, copy = copier.stopped()
    return (plain.words(copier.left()), copier.place(), copier.copy(), copier.total(), covered,
            (plain.words(left), place, copy))


def copy_page(copier, many=10):
    """One page by all its steps, followed to the diary's end."""
    copier.open_page()
    rows = copier.read_page(many)
    copier.close_page()
    copier.follow(ALL)
    return rows


def copy_all(copier, many=10):
    while copier.left() is not None:
        copy_page(copier, many)


class Case(unittest.TestCase):

    def assert_words(self, token, words):
        self.assertEqual(plain.words(token), words)

    def assert_promise(self, house, first, copier):
        """The copy is what the house had at the place, of the keys that are covered."""
        table = plain.behind(house.diary()[:copier.place()])
        left = copier.left()
        covered = {key: got for key, got in table.items() if plain.holds(first, key) and not plain.holds(left, key)}
        self.assertEqual(copier.copy(), covered)
        self.assertEqual(copier.total(), sum(covered.values()))

    def assert_refused(self, copier, house, *steps):
        """Each of these steps is refused, and nothing is changed."""
        for step in steps:
            ahead = (told(copier), house.diary())
            with self.assertRaises(OutOfTurn):
                step()
            self.assertEqual((told(copier), house.diary()), ahead)


class New(Case):

    def test_of_an_empty_house(self):
        copier = Copier(House(), Up())
        self.assertEqual((copier.place(), copier.copy(), copier.total()), (0, {}, 0))
        self.assert_words(copier.left(), "up 0 -")

    def test_the_place_counts_all_rows_of_the_diary(self):
        house = filled(range(5))
        house.lay_mark()
        house.drop(3)
        for kind in KINDS:
            copier = Copier(house, kind(7, 7))
            self.assertEqual((copier.place(), copier.copy()), (7, {}))
            self.assert_words(copier.left(), kind(7, 7).words())
        house.put(1, 1)
        self.assertEqual((copier.place(), Copier(house, Up()).place()), (7, 8))

    def test_covers_nothing_yet(self):
        house = filled(range(5))
        for kind in KINDS:
            copier = Copier(house, kind())
            self.assertEqual([copier.covers(key) for key in range(9)], [False] * 9)

    def test_beginning_lays_no_mark_and_changes_nothing(self):
        house = filled(range(5))
        ahead = (house.diary(), house.now)
        Copier(house, Up())
        self.assertEqual((house.diary(), house.now), ahead)

    def test_arguments_by_name_and_left_out(self):
        house = filled(range(5))
        ahead = told(Copier(house, Up(2)))
        self.assertEqual(told(Copier(house=house, token=Up(2), stopped=None)), ahead)
        self.assertEqual(told(Copier(house, Up(2), None)), ahead)
        copier = Copier(house=house, token=Up(2), stopped=(Up(4), 5, {2: 1, 3: 2}))
        self.assertEqual((copier.place(), copier.copy()), (5, {2: 1, 3: 2}))

    def test_kinds(self):
        house = filled(range(30))
        copier = Copier(house, Up())
        self.assertIs(type(copier.open_page()), int)
        rows = copier.read_page()
        self.assertIs(type(rows), list)
        self.assertEqual({type(row) for row in rows}, {tuple})
        self.assertIs(type(copier.close_page()), int)
        self.assertIs(type(copier.follow(9)), int)
        self.assertEqual([type(copier.place()), type(copier.total()), type(copier.copy())], [int, int, dict])
        self.assertIs(type(copier.left()), Up)
        self.assertEqual([type(copier.covers(3)), type(copier.covers(300))], [bool, bool])
        self.assertIs(type(copier.stopped()), tuple)
        self.assertEqual([type(one) for one in copier.stopped()], [Up, int, dict])


class Steps(Case):
    """Point 32."""

    def test_in_their_order(self):
        house = filled(range(15))
        copier = Copier(house, Up())
        self.assertEqual(copier.open_page(), 1)
        self.assertEqual(house.diary(15), [("mark", 1)])
        self.assertEqual(copier.read_page(), [(key, value(key)) for key in range(10)])
        self.assertEqual(house.diary(15), [("mark", 1)])
        self.assertEqual(copier.close_page(), 2)
        self.assertEqual(house.diary(15), [("mark", 1), ("mark", 2)])
        self.assertEqual((copier.copy(), copier.place()), ({}, 15))
        self.assert_words(copier.left(), "up 0 -")
        self.assertEqual(copier.follow(2), 17)
        self.assertEqual(copier.copy(), {key: value(key) for key in range(10)})
        self.assert_words(copier.left(), "up 10 -")

    def test_the_marks_of_a_house_are_numbered_on(self):
        house = filled(range(3))
        house.lay_mark()
        copier = Copier(house, Up())
        self.assertEqual(copier.open_page(), 2)
        house.lay_mark()
        copier.read_page(1)
        self.assertEqual(copier.close_page(), 4)
        self.assertEqual(house.now, 3)

    def test_many(self):
        house = filled(range(150))
        for many, keys, left in ((1, 1, "up 1 -"), (7, 7, "up 7 -"), (100, 100, "up 100 -"), (101, 101, "up 101 -")):
            copier = Copier(house, Up())
            rows = copy_page(copier, many)
            self.assertEqual(rows, [(key, value(key)) for key in range(keys)])
            self.assert_words(copier.left(), left)
        copier = Copier(house, Up())
        copier.open_page()
        self.assertEqual(len(copier.read_page(many=4)), 4)

    def test_read_is_what_ask_tells_then(self):
        for name, house in plain.houses().items():
            for first in (BySlots(), BySlots(256, 40000), Up(), Up(2, 70), Down(), Down(70, 2)):
                for many in (1, 3, 10):
                    copier = Copier(house, first)
                    copier.open_page()
                    rows, left = ask(house, first, many)
                    self.assertEqual(copier.read_page(many), rows)
                    copier.close_page()
                    copier.follow(2)
                    self.assertEqual(copier.copy(), dict(rows))
                    self.assert_words(copier.left(), plain.words(left))

    def test_changes_ahead_of_the_reading_are_read(self):
        house = filled(range(4))
        copier = Copier(house, Up())
        copier.open_page()
        house.put(1, 77)
        house.drop(2)
        self.assertEqual(copier.read_page(), [(0, value(0)), (1, 77), (3, value(3))])

    def test_before_a_page_is_opened(self):
        house = filled(range(4))
        copier = Copier(house, Up())
        self.assert_refused(copier, house, copier.read_page, lambda: copier.read_page(3), copier.close_page)
        self.assertEqual(copier.open_page(), 1)

    def test_once_opened(self):
        house = filled(range(4))
        copier = Copier(house, Up())
        copier.open_page()
        self.assert_refused(copier, house, copier.open_page, copier.close_page)
        copier.follow(ALL)
        self.assert_refused(copier, house, copier.open_page, copier.close_page)
        self.assertEqual(len(copier.read_page()), 4)

    def test_once_read(self):
        house = filled(range(4))
        copier = Copier(house, Up())
        copier.open_page()
        copier.read_page(2)
        self.assert_refused(copier, house, copier.open_page, copier.read_page, lambda: copier.read_page(1))
        copier.follow(ALL)
        self.assert_refused(copier, house, copier.open_page, copier.read_page)
        self.assertEqual(copier.close_page(), 2)
        copier.follow(ALL)
        self.assertEqual(copier.copy(), {0: value(0), 1: value(1)})

    def test_once_read_with_no_rows(self):
        house = House()
        copier = Copier(house, Up())
        copier.open_page()
        self.assert_refused(copier, house, copier.close_page)
        self.assertEqual(copier.read_page(), [])
        self.assert_refused(copier, house, copier.read_page, copier.open_page)
        self.assertEqual(copier.close_page(), 2)
        self.assert_refused(copier, house, copier.read_page, copier.open_page, copier.close_page)

    def test_once_closed(self):
        house = filled(range(4))
        copier = Copier(house, Up())
        copier.open_page()
        copier.read_page(2)
        house.put(9, 9)
        copier.close_page()
        # The rows are the first mark, the put and the closing mark.
        for again in range(3):
            self.assert_refused(copier, house, copier.open_page, copier.read_page, copier.close_page)
            copier.follow(1)
        self.assert_refused(copier, house, copier.read_page, copier.close_page)
        self.assertEqual(copier.open_page(), 3)
        self.assertEqual(copier.read_page(1), [(2, value(2))])

    def test_where_none_is_left(self):
        for kind in KINDS:
            house = filled(range(4))
            copier = Copier(house, kind())
            copy_all(copier, 2)
            self.assertIs(copier.left(), None)
            self.assert_refused(copier, house, copier.open_page, copier.read_page, copier.close_page)
            house.put(50, 1)
            copier.follow(1)
            self.assertEqual(copier.copy()[50], 1)
            self.assert_refused(copier, house, copier.open_page, copier.read_page, copier.close_page)

    def test_the_refusal_is_a_walk_error(self):
        self.assertRaises(WalkError, Copier(House(), Up()).close_page)


class Follows(Case):
    """Point 33."""

    def read_two(self):
        """A house with the keys 0, 10, 20, 30, and a copier that read the page of 0 and 10."""
        house = filled((0, 10, 20, 30))
        copier = Copier(house, Up())
        copier.open_page()
        copier.read_page(2)
        return (house, copier)

    def assert_closed(self, house, copier, copy):
        copier.close_page()
        copier.follow(ALL)
        self.assertEqual(copier.copy(), copy)
        self.assert_promise(house, Up(), copier)

    def test_so_many_steps(self):
        house = filled(range(4))
        copier = Copier(house, Up())
        self.assertEqual(copier.follow(0), 4)
        self.assertEqual(copier.follow(5), 4)
        for key in range(6):
            house.put(key, 1)
        self.assertEqual([copier.follow(0), copier.follow(1), copier.follow(3), copier.place()], [4, 5, 8, 8])
        self.assertEqual([copier.follow(3), copier.follow(1), copier.follow(FORTY)], [10, 10, 10])
        house.lay_mark()
        self.assertEqual(copier.follow(ALL), 11)

    def test_fewer_than_no_steps(self):
        house = filled(range(4))
        copier = Copier(house, Up())
        house.put(1, 1)
        house.put(1, 1)
        self.assertEqual((copier.follow(-1), copier.place()), (4, 4))

    def test_changes_of_covered_keys_are_done_as_they_are_followed(self):
        house = filled((0, 10, 20, 30))
        copier = Copier(house, Up())
        copy_page(copier, 2)
        house.put(10, 1)
        house.put(5, 2)
        house.drop(0)
        house.drop(5)
        house.put(0, 3)
        copies = []
        for again in range(5):
            copier.follow(1)
            copies.append(copier.copy())
        self.assertEqual(copies, [{0: -40, 10: 1}, {0: -40, 10: 1, 5: 2}, {10: 1, 5: 2}, {10: 1}, {10: 1, 0: 3}])

    def test_changes_of_keys_not_covered_are_nothing(self):
        house = filled((0, 10, 20, 30))
        copier = Copier(house, Up(0, 25))
        copy_page(copier, 2)
        ahead = copier.copy()
        for key in (11, 20, 25, 30, FORTY):
            house.put(key, 1)
        house.drop(20)
        copier.follow(ALL)
        self.assertEqual(copier.copy(), ahead)
        copy_all(copier)
        self.assertEqual(copier.copy(), {0: -40, 10: -10, 11: 1})

    def test_a_page_is_not_copied_ahead_of_its_closing_mark(self):
        house, copier = self.read_two()
        house.put(0, 1)
        copier.follow(ALL)
        self.assertEqual((copier.copy(), copier.covers(0)), ({}, False))
        self.assert_words(copier.left(), "up 0 -")
        copier.close_page()
        house.put(0, 2)
        self.assertEqual(copier.follow(0), 6)
        self.assertEqual((copier.copy(), copier.covers(0)), ({}, False))
        copier.follow(1)
        self.assertEqual((copier.copy(), copier.covers(0)), ({0: 1, 10: -10}, True))
        self.assert_words(copier.left(), "up 11 -")
        copier.follow(1)
        self.assertEqual(copier.copy(), {0: 2, 10: -10})

    def test_a_put_of_a_key_of_the_page(self):
        house, copier = self.read_two()
        house.put(10, 5)
        self.assert_closed(house, copier, {0: -40, 10: 5})

    def test_a_drop_of_a_key_of_the_page(self):
        house, copier = self.read_two()
        house.drop(10)
        self.assert_closed(house, copier, {0: -40})

    def test_a_put_of_a_key_of_the_piece_that_is_not_on_the_page(self):
        house, copier = self.read_two()
        house.put(7, 5)
        self.assert_closed(house, copier, {0: -40, 10: -10, 7: 5})

    def test_a_put_that_is_dropped_again(self):
        house, copier = self.read_two()
        house.put(7, 5)
        house.drop(7)
        house.put(10, 4)
        house.drop(10)
        self.assert_closed(house, copier, {0: -40})

    def test_a_drop_that_is_put_again(self):
        house, copier = self.read_two()
        house.drop(0)
        house.put(0, 6)
        self.assert_closed(house, copier, {0: 6, 10: -10})

    def test_a_later_change_stands_in_the_place_of_the_one_ahead(self):
        house, copier = self.read_two()
        for number in (4, 5, 6):
            house.put(0, number)
            copier.follow(1)
        self.assert_closed(house, copier, {0: 6, 10: -10})

    def test_a_key_behind_the_piece_is_not_noted(self):
        house, copier = self.read_two()
        house.put(11, 5)
        house.put(20, 5)
        house.drop(30)
        self.assert_closed(house, copier, {0: -40, 10: -10})
        self.assert_words(copier.left(), "up 11 -")

    def test_the_last_piece_has_all_that_is_left(self):
        house = filled((0, 10))
        copier = Copier(house, Up(5, 90))
        copier.open_page()
        self.assertEqual(copier.read_page(), [(10, -10)])
        for key in (4, 5, 89, 90):
            house.put(key, key)
        copier.close_page()
        copier.follow(ALL)
        self.assertEqual(copier.copy(), {10: -10, 5: 5, 89: 89})

    def test_changes_followed_between_opening_and_reading(self):
        house = filled((0, 10, 20, 30))
        copier = Copier(house, Up())
        copier.open_page()
        house.put(0, 5)
        house.drop(10)
        copier.follow(ALL)
        self.assertEqual(copier.copy(), {})
        self.assertEqual(copier.read_page(2), [(0, 5), (20, 20)])
        copier.close_page()
        copier.follow(ALL)
        self.assertEqual(copier.copy(), {0: 5, 20: 20})

    def test_changes_ahead_of_the_reading_that_are_followed_behind_it(self):
        house = filled((0, 10, 20, 30))
        copier = Copier(house, Up())
        house.put(0, 5)
        house.drop(10)
        copier.open_page()
        house.put(0, 6)
        house.put(10, 1)
        house.put(15, 1)
        house.drop(15)
        self.assertEqual(copier.read_page(2), [(0, 6), (10, 1)])
        for again in range(6):
            copier.follow(1)
            self.assertEqual(copier.copy(), {})
        self.assert_closed(house, copier, {0: 6, 10: 1})

    def test_a_change_noted_for_one_page_bears_on_no_other(self):
        house, copier = self.read_two()
        house.drop(0)
        house.put(5, 5)
        self.assert_closed(house, copier, {5: 5, 10: -10})
        house.put(0, 8)
        house.drop(5)
        copier.follow(ALL)
        copy_page(copier, 1)
        self.assertEqual(copier.copy(), {0: 8, 10: -10, 20: 20})

    def test_changes_behind_the_closing_mark(self):
        house, copier = self.read_two()
        copier.close_page()
        house.drop(0)
        house.put(3, 3)
        house.put(25, 3)
        copier.follow(ALL)
        self.assertEqual(copier.copy(), {10: -10, 3: 3})
        self.assert_promise(house, Up(), copier)

    def test_other_marks_are_passed_over(self):
        house, copier = self.read_two()
        other = Copier(house, Up())
        other.open_page()
        house.put(0, 1)
        other.read_page()
        other.close_page()
        house.lay_mark()
        house.put(0, 2)
        self.assertEqual(copier.follow(ALL), 10)
        self.assertEqual(copier.copy(), {})
        self.assert_words(copier.left(), "up 0 -")
        self.assert_closed(house, copier, {0: 2, 10: -10})
        self.assertEqual(other.copy(), {})
        other.follow(3)
        self.assertEqual(other.copy(), {0: 1, 10: -10, 20: 20, 30: 50})
        other.follow(ALL)
        self.assertEqual(other.copy(), {0: 2, 10: -10, 20: 20, 30: 50})

    def test_the_first_mark_is_passed_over(self):
        house, copier = self.read_two()
        copier.close_page()
        copier.follow(1)
        self.assertEqual(copier.copy(), {})
        self.assertRaises(OutOfTurn, copier.open_page)
        copier.follow(1)
        self.assertEqual(copier.copy(), {0: -40, 10: -10})

    def test_the_mark_of_a_page_ahead(self):
        house = filled(range(4))
        copier = Copier(house, Up())
        copy_page(copier, 1)
        house.lay_mark()
        copier.open_page()
        house.lay_mark()
        copier.read_page(1)
        copier.follow(ALL)
        self.assertEqual(copier.copy(), {0: value(0)})

    def test_following_changes_nothing_of_the_house(self):
        house, copier = self.read_two()
        house.drop(0)
        copier.close_page()
        ahead = (house.now, house.floor, house.diary(), house.slots.cells(), house.slots.moved(), house.leaves.all_of())
        copier.follow(ALL)
        self.assertEqual((house.now, house.floor, house.diary(), house.slots.cells(), house.slots.moved(),
                          house.leaves.all_of()), ahead)

    def test_by_slots(self):
        house = filled(range(4))
        copier = Copier(house, BySlots())
        copier.open_page()
        self.assertEqual(copier.read_page(1), [(0, -40)])
        house.put(4, 1)         # place 8192: of the piece
        house.put(65536, 2)     # place 0
        house.put(2, 9)         # place 16384: not of the piece
        house.put(6, 9)
        house.drop(0)
        copier.close_page()
        copier.follow(ALL)
        self.assertEqual(copier.copy(), {4: 1, 65536: 2})
        self.assert_words(copier.left(), "slots 16384 65536")
        self.assertEqual([copier.covers(key) for key in (0, 4, 8, 65536, 1, 2, 3, 6)], [True] * 4 + [False] * 4)

    def test_down(self):
        house = filled((0, 10, 20, 30))
        copier = Copier(house, Down(None, 5))
        copier.open_page()
        self.assertEqual(copier.read_page(1), [(30, 50)])
        house.put(31, 1)
        house.put(29, 1)
        house.put(30, 2)
        copier.close_page()
        copier.follow(ALL)
        self.assertEqual(copier.copy(), {30: 2, 31: 1})
        self.assert_words(copier.left(), "down 29 5")
        copy_all(copier, 1)
        self.assertEqual(copier.copy(), {30: 2, 31: 1, 29: 1, 20: 20, 10: -10})

    def test_pages_without_rows(self):
        house = plain.crowded()
        first = BySlots(256)
        copier = Copier(house, first)
        self.assertEqual(copy_page(copier, 1), [])
        self.assert_words(copier.left(), "slots 4096 65536")
        self.assertEqual((copier.copy(), copier.covers(32), copier.covers(8)), ({}, True, False))
        house.put(32, 5)
        house.put(8, 6)
        copier.follow(ALL)
        self.assertEqual(copier.copy(), {32: 5})
        copy_all(copier, 1)
        self.assertEqual(copier.copy(), {32: 5, 8: 6})


class Tells(Case):
    """Point 34."""

    def test_total(self):
        house = House()
        for key, number in ((1, FORTY), (2, FORTY), (3, -5), (4, 0)):
            house.put(key, number)
        copier = Copier(house, Up())
        totals = [copier.total()]
        while copier.left() is not None:
            copy_page(copier, 1)
            totals.append(copier.total())
        self.assertEqual(totals, [0, FORTY, 2 * FORTY, 2 * FORTY - 5, 2 * FORTY - 5])
        house.drop(1)
        house.put(2, copier.total())
        self.assertEqual(copier.total(), 2 * FORTY - 5)
        copier.follow(1)
        self.assertEqual(copier.total(), FORTY - 5)
        copier.follow(1)
        self.assertEqual(copier.total(), 2 * FORTY - 10)

    def test_covers(self):
        house = filled(range(0, 100, 10))
        copier = Copier(house, Up(20, 80))
        copy_page(copier, 3)
        self.assertEqual([key for key in range(100) if copier.covers(key)], list(range(20, 41)))
        copy_all(copier)
        self.assertEqual([key for key in range(100) if copier.covers(key)], list(range(20, 80)))
        self.assertIs(copier.covers(FORTY), False)

    def test_stopped(self):
        house = filled(range(0, 100, 10))
        copier = Copier(house, Down(80, 20))
        copy_page(copier, 2)
        left, place, copy = copier.stopped()
        self.assert_words(left, "down 69 20")
        self.assertEqual((place, copy), (12, {80: 200, 70: 170}))
        copy_all(copier)
        self.assertEqual(copier.stopped(), (None, copier.place(), copier.copy()))

    def test_stopped_tells_what_was_asked_of_it_alone(self):
        for kind in KINDS:
            house = filled(range(20))
            copier = Copier(house, kind())
            while copier.left() is not None:
                copy_page(copier, 3)
                left, place, copy = copier.stopped()
                self.assertEqual((plain.words(left), place, copy),
                                 (plain.words(copier.left()), copier.place(), copier.copy()))

    def test_one_that_goes_on(self):
        house = filled(range(0, 100, 10))
        first = Up(15, 85)
        copier = Copier(house, first)
        copy_page(copier, 3)
        house.put(20, 1)
        house.put(50, 2)
        house.drop(30)
        later = Copier(house, first, copier.stopped())
        self.assertEqual(told(later), told(copier))
        self.assertEqual(later.place(), 12)
        self.assertEqual(later.follow(1), 13)
        self.assertEqual(later.copy(), {20: 1, 30: 50, 40: 80})
        copy_all(later, 2)
        self.assertEqual(later.copy(), {20: 1, 40: 80, 50: 2, 60: 140, 70: 170, 80: 200})
        self.assertEqual(copier.copy(), {20: 20, 30: 50, 40: 80})
        self.assertEqual([key for key in range(100) if later.covers(key)], list(range(15, 85)))

    def test_one_that_goes_on_from_a_new_one(self):
        house = filled(range(5))
        copier = Copier(house, BySlots())
        house.put(9, 9)
        later = Copier(house, BySlots(), copier.stopped())
        self.assertEqual((later.place(), later.copy()), (5, {}))
        copy_all(later, 1)
        self.assertEqual(later.copy(), plain.table_of(house))

    def test_one_that_goes_on_where_none_is_left(self):
        house = filled(range(5))
        copier = Copier(house, Up())
        copy_all(copier)
        house.put(9, 9)
        later = Copier(house, Up(), copier.stopped())
        self.assertIs(later.left(), None)
        self.assertRaises(OutOfTurn, later.open_page)
        later.follow(ALL)
        self.assertEqual(later.copy(), plain.table_of(house))

    def test_a_page_not_copied_yet_is_forgotten(self):
        for steps in (1, 2, 3):
            house = filled(range(0, 60, 10))
            copier = Copier(house, Up())
            copy_page(copier, 2)
            copier.open_page()
            if steps > 1:
                copier.read_page(2)
            house.put(20, 1)
            copier.follow(1)
            if steps > 2:
                copier.close_page()
            later = Copier(house, Up(), copier.stopped())
            self.assertEqual(told(later), told(copier))
            self.assert_refused(later, house, later.read_page, later.close_page)
            # The closing mark of the page forgotten is passed over.
            later.follow(ALL)
            self.assert_words(later.left(), "up 11 -")
            self.assertEqual(later.copy(), {0: -40, 10: -10})
            later.open_page()
            self.assertEqual(later.read_page(2), [(20, 1), (30, 50)])
            later.close_page()
            later.follow(ALL)
            self.assertEqual(later.copy(), {0: -40, 10: -10, 20: 1, 30: 50})
            copy_all(later)
            self.assertEqual(later.copy(), plain.table_of(house))

    def test_a_change_noted_for_a_page_forgotten_is_forgotten(self):
        house = filled(range(0, 60, 10))
        copier = Copier(house, Up())
        copier.open_page()
        copier.read_page(2)
        house.drop(0)
        copier.follow(ALL)
        later = Copier(house, Up(), copier.stopped())
        house.put(0, 4)
        later.follow(ALL)
        later.open_page()
        later.read_page(1)
        later.close_page()
        later.follow(ALL)
        self.assertEqual(later.copy(), {0: 4})

    def test_the_one_that_stopped_can_go_on_too(self):
        house = filled(range(0, 60, 10))
        copier = Copier(house, Up())
        copier.open_page()
        copier.read_page(2)
        copier.close_page()
        later = Copier(house, Up(), copier.stopped())
        copier.follow(ALL)
        self.assertEqual((copier.copy(), later.copy()), ({0: -40, 10: -10}, {}))


class Promise(Case):
    """Points 4 and 35."""

    def firsts(self, chance, most):
        low, high = sorted(chance.sample(range(most), 2))
        place_low, place_high = sorted(chance.sample(range(65537), 2))
        return [BySlots(), BySlots(place_low, place_high), Up(), Up(low), Up(low, high), Down(), Down(high, low)]

    def test_at_any_time_with_several_copiers(self):
        for seed in range(60):
            chance = random.Random(seed)
            most = chance.choice((8, 30, 120))
            keys = chance.choice((range(most), [j * 64 for j in range(most)], [j * 7919 for j in range(most)]))
            house = House()
            for again in range(most // 2):
                plain.deed(house, chance, keys)
            watched = [Watched(self, house, first) for first in chance.sample(self.firsts(chance, max(keys)), 2)]
            for again in range(250):
                if chance.random() < 0.4:
                    plain.deed(house, chance, keys)
                else:
                    chance.choice(watched).step(chance)
                for one in watched:
                    one.check()
            for one in watched:
                one.finish()

    def test_at_the_end_the_copy_is_the_house(self):
        for kind in KINDS:
            for many in (1, 3, 10, 100):
                chance = random.Random(many)
                keys = range(0, 2000, 5)
                house = filled(keys[:300])
                copier = Copier(house, kind())
                while copier.left() is not None:
                    for step in (copier.open_page, lambda: copier.read_page(many), copier.close_page):
                        step()
                        plain.deed(house, chance, keys)
                        copier.follow(chance.randrange(3))
                    copier.follow(ALL)
                    self.assert_promise(house, kind(), copier)
                copier.follow(ALL)
                self.assertEqual(copier.copy(), plain.table_of(house))

    def test_what_is_covered_never_gets_less(self):
        for first in (BySlots(), BySlots(300, 50000), Up(), Up(100, 700), Down(), Down(700, 100)):
            chance = random.Random(4)
            house = filled(KEYS)
            copier = Copier(house, first)
            covered = set()
            while copier.left() is not None:
                copy_page(copier, 9)
                for again in range(30):
                    plain.deed(house, chance, KEYS)
                    copier.follow(1)
                    now = {key for key in range(900) if copier.covers(key)}
                    self.assertLessEqual(covered, now)
                    covered = now
            self.assertEqual(covered, {key for key in range(900) if plain.holds(first, key)})

    def test_copies_by_the_parts_of_a_token_put_together(self):
        for first in (BySlots(), BySlots(300, 50000), Up(0, 900), Up(100, 700)):
            for many in (1, 2, 7, 60):
                chance = random.Random(many)
                house = filled(KEYS)
                copiers = [Copier(house, part) for part in parts(first, many)]
                while [copier for copier in copiers if copier.left() is not None]:
                    copier = chance.choice([copier for copier in copiers if copier.left() is not None])
                    copier.open_page()
                    plain.deed(house, chance, KEYS)
                    copier.read_page(5)
                    plain.deed(house, chance, KEYS)
                    copier.close_page()
                    copier.follow(ALL)
                for copier in copiers:
                    copier.follow(ALL)
                together = {}
                for copier in copiers:
                    self.assertEqual(set(together) & set(copier.copy()), set())
                    together.update(copier.copy())
                table = plain.table_of(house)
                self.assertEqual(together, {key: table[key] for key in table if plain.holds(first, key)})

    def test_two_thousand_rows_followed_one_by_one(self):
        chance = random.Random(35)
        house = filled(range(400))
        copier = Copier(house, BySlots())
        while len(house.diary()) < 1900:
            plain.deed(house, chance, range(800))
        rows = house.diary()
        copy_all(copier, 100)
        while len(house.diary()) < 2000:
            plain.deed(house, chance, range(800))
        while copier.place() < len(house.diary()):
            copier.follow(1)
            self.assert_promise(house, BySlots(), copier)
        self.assertEqual(house.diary()[:1900], rows)
        self.assertEqual(copier.copy(), plain.table_of(house))


class Watched:
    """A copier, and what the document tells of where it stands."""

    def __init__(self, case, house, first):
        self.case = case
        self.house = house
        self.first = first
        self.copier = Copier(house, first)
        self.left = first.words()
        self.place = len(house.diary())
        self.forget()

    def forget(self):
        self.stage = "idle"
        self.ahead = None
        self.closing = None

    def step(self, chance):
        """One step, in its order or out of it."""
        chance.choice((self.opening, self.reading, self.closing_page, self.following, self.following, self.going_on))(chance)

    def do(self, allowed, call, *more):
        """The call's answer; None where it is refused, as it is to be."""
        if allowed:
            return call(*more)
        ahead = (told(self.copier), self.house.diary())
        self.case.assertRaises(OutOfTurn, call, *more)
        self.case.assertEqual((told(self.copier), self.house.diary()), ahead)

    def opening(self, chance):
        number = self.do(self.stage == "idle" and self.left is not None, self.copier.open_page)
        if number is not None:
            self.case.assertEqual(self.house.diary()[-1], ("mark", number))
            self.stage = "opened"

    def reading(self, chance):
        many = chance.choice((1, 2, 5, 10))
        expected = None
        if self.stage == "opened":
            expected = plain.page(plain.table_of(self.house), self.house.slots.rows(), self.copier.left(), many)
        rows = self.do(self.stage == "opened", self.copier.read_page, many)
        if rows is not None:
            self.case.assertEqual(rows, expected[0])
            self.ahead = expected[1]
            self.stage = "read"

    def closing_page(self, chance):
        number = self.do(self.stage == "read", self.copier.close_page)
        if number is not None:
            self.case.assertEqual(self.house.diary()[-1], ("mark", number))
            self.closing = len(self.house.diary())
            self.stage = "closed"

    def following(self, chance):
        self.go(chance.choice((0, 1, 1, 2, 5, 30)))

    def go(self, steps):
        self.place = min(self.place + steps, len(self.house.diary()))
        self.case.assertEqual(self.copier.follow(steps), self.place)
        if self.closing is not None and self.place >= self.closing:
            self.left = self.ahead
            self.forget()

    def going_on(self, chance):
        if chance.random() < 0.1:
            self.copier = Copier(self.house, self.first, self.copier.stopped())
            self.forget()

    def check(self):
        self.case.assertEqual(plain.words(self.copier.left()), self.left)
        self.case.assertEqual(self.copier.place(), self.place)
        self.case.assert_promise(self.house, self.first, self.copier)

    def finish(self):
        """On to the end, the page on its way first."""
        if self.stage == "opened":
            self.copier.read_page()
            self.copier.close_page()
        elif self.stage == "read":
            self.copier.close_page()
        self.copier.follow(ALL)
        copy_all(self.copier)
        table = plain.table_of(self.house)
        self.case.assertEqual(self.copier.copy(), {key: table[key] for key in table if plain.holds(self.first, key)})


class Changes(Case):
    """Point 3."""

    def test_a_dict_that_was_told_is_the_askers_own(self):
        house = filled(range(20))
        copier = Copier(house, Up())
        copy_page(copier)
        ahead = told(copier)
        for copy in (copier.copy(), copier.stopped()[2]):
            copy.clear()
            copy[500] = 1
        self.assertEqual(told(copier), ahead)
        copies = (copier.copy(), copier.stopped()[2])
        house.drop(3)
        copier.follow(ALL)
        copy_all(copier)
        self.assertEqual(copies, (ahead[2], ahead[2]))

    def test_a_page_that_was_told_is_the_askers_own(self):
        house = filled(range(5))
        copier = Copier(house, Up())
        copier.open_page()
        rows = copier.read_page()
        rows.clear()
        rows.append((77, 7))
        copier.close_page()
        copier.follow(ALL)
        self.assertEqual(copier.copy(), plain.table_of(house))

    def test_a_stopped_tuple_that_is_changed_later(self):
        house = filled(range(20))
        copier = Copier(house, Up())
        copy_page(copier)
        stopped = copier.stopped()
        later = Copier(house, Up(), stopped)
        ahead = told(later)
        stopped[2].clear()
        stopped[2][500] = 1
        self.assertEqual(told(later), ahead)
        self.assertEqual(told(copier), ahead)

    def test_a_stopped_tuple_is_not_changed_by_the_one_that_goes_on(self):
        house = filled(range(20))
        copier = Copier(house, Up())
        copy_page(copier)
        stopped = copier.stopped()
        copy = dict(stopped[2])
        later = Copier(house, Up(), stopped)
        house.drop(3)
        house.put(4, 4)
        copy_all(later)
        self.assertEqual(stopped[2], copy)
        self.assertEqual(stopped[1], 22)
        self.assert_words(stopped[0], "up 10 -")
        # Handed in once more, it is the same copier again.
        self.assertEqual(told(Copier(house, Up(), stopped)), told(copier))

    def test_questions_change_nothing_and_tell_the_same_again(self):
        house = filled(range(20))
        copier = Copier(house, BySlots())
        for step in (copier.open_page, copier.read_page, copier.close_page, lambda: copier.follow(1)):
            step()
            ahead = (house.diary(), house.now, house.slots.moved(), house.slots.cells())
            self.assertEqual(told(copier), told(copier))
            self.assertEqual((house.diary(), house.now, house.slots.moved(), house.slots.cells()), ahead)

    def test_the_first_token_is_not_changed(self):
        for first in (BySlots(3, 60000), Up(3), Down(90, 3)):
            words = first.words()
            copier = Copier(filled(range(60)), first)
            copy_all(copier, 4)
            self.assertEqual(first.words(), words)

    def test_copiers_of_two_houses(self):
        one, other = filled(range(5)), filled(range(50, 55))
        copiers = (Copier(one, Up()), Copier(other, Up()))
        for copier in copiers:
            copier.open_page()
            copier.read_page()
        for copier in copiers:
            copier.close_page()
            copier.follow(ALL)
        self.assertEqual(copiers[0].copy(), plain.table_of(one))
        self.assertEqual(copiers[1].copy(), plain.table_of(other))


if __name__ == "__main__":
    unittest.main()
