"""Point 38, and point 3 as far as it bears on staywalk.kept."""

import random
import unittest

import plain
from plain import FORTY, filled
from staywalk.errors import NoText, WalkError
from staywalk.house import House
from staywalk.kept import read_house, shown
from staywalk.slots import Slots

SIXTY = 10 ** 60 - 1


def of_rows(rows):
    house = House()
    for key, value in rows:
        house.put(key, value)
    return house


def all_told(house):
    """Whatever a house tells of itself."""
    table = plain.table_of(house)
    return (house.now, house.floor, house.held(), house.diary(), house.many(), house.leaves.all_of(), table,
            [house.makes(key) for key in table], house.slots.rows(), house.slots.moved(), house.slots.cells())


class Case(unittest.TestCase):

    def assert_refused(self, text):
        with self.subTest(text=text):
            with self.assertRaises(WalkError) as taken:
                read_house(text)
            self.assertIs(type(taken.exception), NoText)

    def assert_as_put(self, house, table):
        """The house is a new one in which the rows of the table were put, rising."""
        keys = sorted(table)
        puts = [("put", key, table[key]) for key in keys]
        self.assertIs(type(house), House)
        self.assertEqual((house.now, house.many(), house.floor, house.held()), (len(keys), len(keys), 0, []))
        self.assertEqual(house.diary(), puts)
        self.assertEqual([(key, house.get(key)) for key in keys], [(key, table[key]) for key in keys])
        self.assertEqual([key for leaf in house.leaves.all_of() for key in leaf], keys)
        self.assertEqual([house.makes(key) for key in keys], [[(at, table[key])] for at, key in enumerate(keys, 1)])
        slots = Slots()
        for key in keys:
            slots.put(key, table[key])
        self.assertEqual((house.slots.rows(), house.slots.moved(), house.slots.cells(), house.slots.span(0, 65536)),
                         (slots.rows(), slots.moved(), slots.cells(), slots.span(0, 65536)))
        self.assertEqual(house.lay_mark(), 1)


class Shows(Case):

    def test_no_key(self):
        self.assertEqual(shown(House()), "")
        house = filled([5])
        house.drop(5)
        self.assertEqual(shown(house), "")

    def test_one_key(self):
        self.assertEqual(shown(of_rows([(5, 7)])), "5 7")
        self.assertEqual(shown(of_rows([(0, 0)])), "0 0")
        self.assertEqual(shown(of_rows([(0, -1)])), "0 -1")

    def test_rising(self):
        self.assertEqual(shown(of_rows([(30, 1), (4, -2), (100, 0), (9, 5), (65536, 3)])), "4 -2\n9 5\n30 1\n100 0\n65536 3")

    def test_the_last_value_of_a_key(self):
        house = of_rows([(3, 1), (4, 2), (3, 5), (4, 6)])
        house.drop(4)
        house.put(4, 8)
        house.drop(3)
        self.assertEqual(shown(house), "4 8")

    def test_forty_figures(self):
        self.assertEqual(shown(of_rows([(FORTY, -FORTY), (FORTY - 1, FORTY), (2, 2)])),
                         "2 2\n" + "9" * 39 + "8 " + "9" * 40 + "\n" + "9" * 40 + " -" + "9" * 40)

    def test_many_keys(self):
        for name, house in plain.houses().items():
            table = plain.table_of(house)
            rows = [f"{key} {table[key]}" for key in sorted(table)]
            self.assertEqual(shown(house), "\n".join(rows), name)
            self.assertIs(type(shown(house)), str)

    def test_by_the_arguments_name(self):
        self.assertEqual(shown(house=of_rows([(1, 2)])), "1 2")


class Reads(Case):

    def test_no_key(self):
        self.assert_as_put(read_house(""), {})

    def test_one_key(self):
        self.assert_as_put(read_house("5 7"), {5: 7})
        self.assert_as_put(read_house("0 0"), {0: 0})
        self.assert_as_put(read_house("0 -3"), {0: -3})

    def test_some_keys(self):
        self.assert_as_put(read_house("0 5\n1 -5\n2 0\n65536 5"), {0: 5, 1: -5, 2: 0, 65536: 5})

    def test_sixty_figures(self):
        rows = {SIXTY: -SIXTY, SIXTY - 1: SIXTY, 10 ** 59: 10 ** 59}
        self.assert_as_put(read_house("\n".join(f"{key} {rows[key]}" for key in sorted(rows))), rows)

    def test_of_what_was_shown(self):
        for name, house in plain.houses().items():
            with self.subTest(name=name):
                text = shown(house)
                table = plain.table_of(house)
                read = read_house(text)
                self.assertEqual(shown(read), text)
                self.assert_as_put(read, table)
                self.assertEqual(shown(read_house(shown(read))), text)

    def test_of_what_was_shown_of_a_house_with_a_past(self):
        chance = random.Random(38)
        for keys in (range(9), range(0, 4000, 9), [FORTY - key for key in range(300)]):
            house = House()
            for again in range(600):
                plain.deed(house, chance, keys)
                if again % 97 == 0:
                    house.hold()
                    house.lay_mark()
                    house.sweep()
            ahead = all_told(house)
            self.assert_as_put(read_house(shown(house)), plain.table_of(house))
            self.assertEqual(all_told(house), ahead)

    def test_by_the_arguments_name(self):
        self.assertEqual(read_house(text="1 2").get(1), 2)

    def test_more_than_four_hundred_keys(self):
        table = {key * 3: key for key in range(450)}
        self.assert_as_put(read_house("\n".join(f"{key} {value}" for key, value in table.items())), table)


class Refuses(Case):

    def test_a_row_without_signs(self):
        for text in ("\n", "\n\n", "\n5 7", "5 7\n\n6 8", "\n\n5 7"):
            self.assert_refused(text)

    def test_a_line_end_behind_the_last_row(self):
        for text in ("5 7\n", "5 7\n6 8\n", "5 7\n\n"):
            self.assert_refused(text)

    def test_other_line_ends(self):
        for end in ("\r\n", "\r", "\v", "\f", "\x1c", "\x85", "\u2028"):
            self.assert_refused("5 7" + end + "6 8")
            self.assert_refused("5 7" + end)

    def test_a_row_with_one_word_or_three(self):
        for row in ("5", "-", "put", "5 7 9", "5 7 ", " 5 7", "5  7", " 5", "5 ", " ", "  ", "put 5 7", "5 7 -"):
            self.assert_refused(row)
            self.assert_refused(row + "\n6 8")
            self.assert_refused("4 6\n" + row)
            self.assert_refused("4 6\n" + row + "\n9 9")

    def test_another_sign_between(self):
        for sign in ("", "\t", "\n", "  ", ",", ":", "=", "\xa0", " \t", "\t "):
            self.assert_refused("5" + sign + "-7")

    def test_a_number_that_is_none(self):
        for number in ("-0", "07", "+7", "7.0", "1_0", "x", "-", "--7", "7-", "\t7", "7\t", "\u0667", "\u00b2", "None"):
            for row in (number + " 9", "9 " + number):
                self.assert_refused(row)
                self.assert_refused("4 6\n" + row)
                self.assert_refused(row + "\n99 9")

    def test_a_key_below_0(self):
        for key in ("-1", "-2", "-65536", str(-FORTY)):
            self.assert_refused(key + " 9")
            self.assert_refused("4 6\n" + key + " 9")
            self.assert_refused(key + " 9\n4 6")

    def test_a_key_twice(self):
        for text in ("0 1\n0 1", "5 1\n5 2", "5 1\n6 2\n6 2\n7 1", f"{FORTY} 1\n{FORTY} 1"):
            self.assert_refused(text)

    def test_keys_that_are_not_rising(self):
        for text in ("1 1\n0 1", "5 1\n6 2\n4 3", "9 1\n10 1\n8 1\n11 1", "10 1\n9 1", "5 1\n7 2\n6 3\n8 4", f"{FORTY} 1\n{FORTY - 1} 1",
                     "5 1\n6 1\n5 1"):
            self.assert_refused(text)

    def test_sixty_one_figures(self):
        for number in ("1" * 61, "1" * 4301):
            self.assert_refused(number + " 5")
            self.assert_refused("5 " + number)
            self.assert_refused("5 -" + number)
            self.assert_refused("4 6\n" + number + " 5")

    def test_what_is_no_text(self):
        for thing in (None, True, False, 0, 5, [], ["5 7"], (), ("5 7",), {}, {5: 7}, b"5 7", b"", House(), object()):
            self.assert_refused(thing)


class Changes(Case):
    """Point 3."""

    def test_the_house_that_was_read_is_one_of_its_own(self):
        house = filled(range(0, 60, 3))
        house.hold()
        ahead = all_told(house)
        text = shown(house)
        read = read_house(text)
        read.put(0, 77)
        read.drop(3)
        read.put(1000, 1)
        read.hold()
        read.lay_mark()
        read.sweep()
        self.assertEqual((all_told(house), shown(house)), (ahead, text))
        house.drop(6)
        house.put(3, 5)
        self.assertEqual((read.get(6), read.has(3)), (plain.value(6), False))

    def test_each_house_that_is_read_is_a_new_one(self):
        for text in ("", "5 7\n6 8"):
            first, second = read_house(text), read_house(text)
            self.assertEqual(all_told(first), all_told(second))
            first.put(9, 9)
            first.hold()
            self.assertEqual(shown(second), text)
            self.assertEqual(all_told(second), all_told(read_house(text)))

    def test_showing_changes_nothing_and_tells_the_same_again(self):
        for name, house in plain.houses().items():
            ahead = all_told(house)
            self.assertEqual(shown(house), shown(house))
            self.assertEqual(all_told(house), ahead, name)


if __name__ == "__main__":
    unittest.main()
