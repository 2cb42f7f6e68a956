"""Points 25 to 30, point 4 as far as it speaks of moments, and point 3 as far as it bears on staywalk.house."""

import random
import unittest

import plain
from plain import FORTY, filled
from staywalk.asks import ask
from staywalk.errors import NoKey, NoMoment, TooOld, WalkError
from staywalk.house import House
from staywalk.leaves import Leaves
from staywalk.slots import Slots
from staywalk.tokens import BySlots, Down, Up


def all_of(house, keys=range(12)):
    """Whatever a house tells of itself and of these keys."""
    slots = house.slots
    of_keys = [(house.has(key), house.makes(key), house.was(key, house.now)) for key in keys]
    return (house.now, house.floor, house.many(), house.diary(), house.held(), slots.rows(), slots.moved(),
            slots.cells(), slots.span(0, 65536), house.leaves.all_of(), of_keys)


def table_told(house, moment, kind=Up, many=100):
    """What page_at tells of a moment, page by page, as a dict."""
    rows = []
    token = kind()
    while token is not None:
        page, token = house.page_at(moment, token, many)
        rows += page
    return dict(rows)


class Case(unittest.TestCase):

    def assert_refused(self, house, kind, field, number, call, *more):
        """The call is refused, the error tells the number, and nothing is changed."""
        ahead = all_of(house)
        with self.assertRaises(kind) as caught:
            call(*more)
        self.assertIs(type(caught.exception), kind)
        self.assertEqual(getattr(caught.exception, field), number)
        self.assertEqual(all_of(house), ahead)

    def assert_kinds(self, row, kinds):
        self.assertIs(type(row), tuple)
        self.assertEqual([type(one) for one in row], kinds)


class Deeds(Case):

    def test_a_new_house(self):
        house = House()
        self.assertEqual((house.now, house.floor, house.many()), (0, 0, 0))
        self.assertIs(type(house.slots), Slots)
        self.assertIs(type(house.leaves), Leaves)
        self.assertEqual((house.slots.rows(), house.slots.many()), ([4], 0))
        self.assertEqual(house.leaves.all_of(), [])
        self.assertEqual((house.diary(), house.makes(0), house.held()), ([], [], []))

    def test_each_house_has_its_own(self):
        one, other = House(), House()
        one.put(1, 2)
        one.lay_mark()
        one.hold()
        self.assertEqual(all_of(other), all_of(House()))

    def test_put_get_has_many(self):
        house = House()
        house.put(6, -7)
        self.assertEqual((house.get(6), house.has(6), house.has(65542), house.many()), (-7, True, False, 1))
        house.put(65542, 0)
        self.assertEqual((house.get(6), house.get(65542), house.many()), (-7, 0, 2))
        house.put(6, 8)
        self.assertEqual((house.get(6), house.many()), (8, 2))
        self.assertIs(house.has(6), True)
        self.assertIs(house.has(7), False)

    def test_put_and_drop_tell_the_moment(self):
        house = House()
        self.assertEqual([house.put(3, 1), house.put(4, 1), house.drop(3), house.put(3, 1)], [1, 2, 3, 4])
        self.assertEqual(house.now, 4)

    def test_a_put_of_the_same_value_is_a_moment(self):
        house = House()
        self.assertEqual([house.put(3, 5), house.put(3, 5), house.put(3, 5)], [1, 2, 3])
        self.assertEqual((house.now, house.many()), (3, 1))
        self.assertEqual(house.diary(), [("put", 3, 5)] * 3)
        self.assertEqual(house.makes(3), [(1, 5), (2, 5), (3, 5)])

    def test_drop(self):
        house = filled(range(3))
        house.drop(1)
        self.assertEqual((house.has(1), house.many(), house.now), (False, 2, 4))
        self.assertEqual((house.has(0), house.has(2)), (True, True))

    def test_refused(self):
        house = filled([0, 1, 3])
        house.drop(1)
        for key in (1, 2, 4, 65536, FORTY):
            self.assert_refused(house, NoKey, "key", key, house.get, key)
            self.assert_refused(house, NoKey, "key", key, house.drop, key)
        self.assertEqual(house.now, 4)
        self.assertEqual(house.put(9, 9), 5)

    def test_refused_while_two_rows_stand(self):
        house = plain.doubling()
        self.assert_refused(house, NoKey, "key", 99, house.drop, 99)
        self.assertEqual((house.slots.rows(), house.slots.moved()), ([8, 16], 3))

    def test_forty_figures(self):
        house = House()
        house.put(FORTY, -FORTY)
        house.put(FORTY - 1, FORTY)
        self.assertEqual((house.get(FORTY), house.get(FORTY - 1)), (-FORTY, FORTY))
        self.assertEqual(house.diary(), [("put", FORTY, -FORTY), ("put", FORTY - 1, FORTY)])
        self.assertEqual(house.was(FORTY, 1), -FORTY)

    def test_arguments_by_name(self):
        house = House()
        self.assertEqual(house.put(key=2, value=3), 1)
        self.assertEqual((house.get(key=2), house.has(key=2), house.makes(key=2)), (3, True, [(1, 3)]))
        self.assertEqual(house.was(key=2, moment=1), 3)
        self.assertEqual(house.diary(low=0), [("put", 2, 3)])
        self.assertEqual(house.page_at(moment=1, token=Up(), many=5), ([(2, 3)], None))
        house.hold()
        self.assertIs(house.let_go(moment=1), None)
        self.assertEqual(house.drop(key=2), 2)


class Kept(Case):
    """Point 25: the slots and the leaves of a house."""

    def assert_slots(self, house, slots):
        self.assertEqual(house.slots.rows(), slots.rows())
        self.assertEqual(house.slots.moved(), slots.moved())
        self.assertEqual(house.slots.cells(), slots.cells())
        self.assertEqual(house.slots.span(0, 65536), slots.span(0, 65536))

    def assert_leaves(self, house, table):
        leaves = house.leaves.all_of()
        self.assertEqual([key for leaf in leaves for key in leaf], sorted(table))
        self.assertEqual(house.leaves.many(), len(table))

    def ask_all(self, house):
        """Every question that there is."""
        for key in (0, 3, 1000):
            house.has(key)
            house.makes(key)
            house.was(key, house.now)
            try:
                house.get(key)
            except NoKey:
                pass
        house.many()
        house.diary()
        house.held()
        ask(house, BySlots(), 3)
        ask(house, Up(), 3)
        house.page_at(house.now, Down(), 3)

    def test_as_a_slots_that_got_the_same(self):
        for seed, most in ((1, 5), (2, 40), (3, 400)):
            chance = random.Random(seed)
            house, slots, table = House(), Slots(), {}
            for step in range(900):
                key = chance.randrange(most * 2)
                rising = step % 450 < 250
                if key in table and not (rising and chance.random() < 0.7):
                    house.drop(key)
                    slots.drop(key)
                    table.pop(key)
                elif len(table) < most:
                    house.put(key, step)
                    slots.put(key, step)
                    table[key] = step
                if step % 7 == 0:
                    self.ask_all(house)
                if step % 31 == 0:
                    house.hold()
                    house.lay_mark()
                if step % 53 == 0:
                    house.sweep()
                if step % 97 == 0:
                    house.let_go(house.held()[0])
                    self.assertRaises(NoKey, house.drop, most * 2 + 1)
                self.assert_slots(house, slots)
                if step % 5 == 0:
                    self.assert_leaves(house, table)
                    self.assertEqual(house.many(), len(table))

    def test_a_put_of_a_key_that_is_there_moves_a_slot(self):
        house = filled(range(5))
        for moved in (1, 2, 3):
            house.put(2, 9)
            self.assertEqual((house.slots.rows(), house.slots.moved()), ([4, 8], moved))
        house.drop(2)
        self.assertEqual((house.slots.rows(), house.slots.moved()), ([8], 0))

    def test_questions_holds_marks_and_sweeps_move_nothing(self):
        house = plain.doubling()
        ahead = (house.slots.rows(), house.slots.moved(), house.slots.cells(), house.leaves.all_of())
        self.ask_all(house)
        house.hold()
        house.lay_mark()
        house.sweep()
        house.let_go(house.now)
        house.sweep()
        self.assertEqual((house.slots.rows(), house.slots.moved(), house.slots.cells(), house.leaves.all_of()), ahead)


class Diary(Case):

    def filled(self):
        house = House()
        house.put(3, 5)
        house.lay_mark()
        house.drop(3)
        house.lay_mark()
        house.put(4, -6)
        return house

    ROWS = [("put", 3, 5), ("mark", 1), ("drop", 3), ("mark", 2), ("put", 4, -6)]

    def test_rows(self):
        self.assertEqual(self.filled().diary(), self.ROWS)
        self.assertIs(type(self.filled().diary()), list)
        for row, kinds in zip(self.ROWS[:3], ([str, int, int], [str, int], [str, int])):
            self.assert_kinds(row, kinds)
        for row in self.filled().diary():
            self.assertIs(type(row), tuple)

    def test_low(self):
        house = self.filled()
        for low in range(8):
            self.assertEqual(house.diary(low), self.ROWS[low:])
        self.assertEqual(house.diary(5), [])
        self.assertEqual(house.diary(6), [])
        self.assertEqual(house.diary(FORTY), [])

    def test_low_below_0(self):
        self.assertEqual(self.filled().diary(-1), self.ROWS)

    def test_an_empty_diary(self):
        self.assertEqual((House().diary(), House().diary(0), House().diary(1)), ([], [], []))

    def test_a_mark_is_no_moment(self):
        house = House()
        self.assertEqual([house.lay_mark(), house.lay_mark()], [1, 2])
        self.assertEqual((house.now, house.many()), (0, 0))
        self.assertEqual(house.put(1, 1), 1)
        self.assertEqual(house.lay_mark(), 3)
        self.assertEqual((house.now, house.makes(1)), (1, [(1, 1)]))

    def test_what_is_refused_or_asked_makes_no_row(self):
        house = self.filled()
        self.assertRaises(NoKey, house.drop, 3)
        self.assertRaises(NoKey, house.get, 3)
        self.assertRaises(NoMoment, house.let_go, 0)
        house.hold()
        house.sweep()
        house.let_go(3)
        all_of(house)
        self.assertEqual(house.diary(), self.ROWS)

    def test_sweeping_leaves_the_diary(self):
        house = self.filled()
        self.assertEqual(house.sweep(), 2)
        self.assertEqual(house.diary(), self.ROWS)

    def test_two_thousand_rows(self):
        house = House()
        chance = random.Random(27)
        expected = []
        while len(expected) < 2000:
            if chance.random() < 0.1:
                expected.append(("mark", house.lay_mark()))
                continue
            key = chance.randrange(800)
            if house.has(key) and (chance.random() < 0.5 or house.many() >= 400):
                house.drop(key)
                expected.append(("drop", key))
            elif house.many() < 400:
                house.put(key, len(expected))
                expected.append(("put", key, len(expected)))
        self.assertEqual(house.diary(), expected)
        self.assertEqual(house.diary(1990), expected[1990:])
        self.assertEqual(house.now, len([row for row in expected if row[0] != "mark"]))
        self.assertEqual([row[1] for row in expected if row[0] == "mark"], list(range(1, 2001 - house.now)))
        self.assertEqual(plain.behind(expected), plain.table_of(house))


class Makes(Case):

    def test_makes(self):
        house = House()
        house.put(3, 5)
        house.put(4, 1)
        house.drop(3)
        house.lay_mark()
        house.put(4, 1)
        house.put(3, 2)
        self.assertEqual(house.makes(3), [(1, 5), (3, None), (5, 2)])
        self.assertEqual(house.makes(4), [(2, 1), (4, 1)])
        self.assertEqual(house.makes(5), [])
        for make in house.makes(4):
            self.assert_kinds(make, [int, int])

    def test_dropped_and_gone(self):
        house = filled([3])
        house.drop(3)
        self.assertEqual(house.makes(3), [(1, -31), (2, None)])
        house.sweep()
        self.assertEqual(house.makes(3), [])
        house.put(3, 8)
        self.assertEqual(house.makes(3), [(3, 8)])

    def test_none_of_a_key_that_was_refused(self):
        house = House()
        self.assertRaises(NoKey, house.drop, 3)
        self.assertEqual(house.makes(3), [])


class Holds(Case):

    def test_hold_tells_now(self):
        house = House()
        self.assertEqual((house.hold(), house.held()), (0, [0]))
        house.put(1, 1)
        house.put(1, 1)
        self.assertEqual((house.hold(), house.held()), (2, [0, 2]))
        self.assertEqual(house.now, 2)

    def test_let_go(self):
        house = filled(range(3))
        house.hold()
        self.assertIs(house.let_go(3), None)
        self.assertEqual(house.held(), [])

    def test_held_more_than_once(self):
        house = filled(range(3))
        self.assertEqual([house.hold(), house.hold(), house.hold()], [3, 3, 3])
        for again in range(2):
            house.let_go(3)
            self.assertEqual(house.held(), [3])
        house.let_go(3)
        self.assertEqual(house.held(), [])
        self.assert_refused(house, NoMoment, "moment", 3, house.let_go, 3)

    def test_refused(self):
        house = filled(range(3))
        for moment in (0, 1, 2, 3, 4, 99, FORTY, -1):
            self.assert_refused(house, NoMoment, "moment", moment, house.let_go, moment)
        house.hold()
        for moment in (0, 1, 2, 4, 99):
            self.assert_refused(house, NoMoment, "moment", moment, house.let_go, moment)
        self.assertEqual(house.held(), [3])
        self.assertTrue(issubclass(NoMoment, WalkError))

    def test_sorted_in_whatever_order_let_go(self):
        house = House()
        for key in range(12):
            house.put(key, 0)
            house.hold()
        house.let_go(1)
        house.let_go(7)
        house.let_go(12)
        self.assertEqual(house.held(), [2, 3, 4, 5, 6, 8, 9, 10, 11])
        house.hold()
        self.assertEqual(house.held(), [2, 3, 4, 5, 6, 8, 9, 10, 11, 12])

    def test_held_again_behind_the_letting_go(self):
        house = filled([1])
        house.hold()
        house.let_go(1)
        house.hold()
        self.assertEqual(house.held(), [1])


class Sweeps(Case):

    def example(self, floor):
        """A house whose key 9 has the makes [(1, 5), (3, None), (6, 2)], the floor being held."""
        house = House()
        for deed in range(1, 7):
            if deed == 1:
                house.put(9, 5)
            elif deed == 3:
                house.drop(9)
            elif deed == 6:
                house.put(9, 2)
            else:
                house.put(1, deed)
            if deed == floor:
                house.hold()
        return house

    def test_the_example(self):
        house = self.example(4)
        self.assertEqual(house.makes(9), [(1, 5), (3, None), (6, 2)])
        house.sweep()
        self.assertEqual((house.floor, house.makes(9)), (4, [(6, 2)]))
        house = self.example(2)
        self.assertEqual(house.sweep(), 0)
        self.assertEqual((house.floor, house.makes(9)), (2, [(1, 5), (3, None), (6, 2)]))

    def test_the_example_at_each_floor(self):
        makes = [(1, 5), (3, None), (6, 2)]
        stay = {1: makes, 2: makes, 3: makes[2:], 4: makes[2:], 5: makes[2:], 6: makes[2:]}
        for floor in stay:
            house = self.example(floor)
            house.sweep()
            self.assertEqual(house.makes(9), stay[floor], floor)

    def test_how_many_went(self):
        # Of key 1 with the makes (2, 2), (4, 4), (5, 5), and of key 9.
        for floor, thrown in ((1, 0), (2, 0), (3, 2), (4, 3), (5, 4), (6, 4)):
            house = self.example(floor)
            self.assertEqual(house.sweep(), thrown, floor)
            self.assertEqual(len(house.makes(1)) + len(house.makes(9)), 6 - thrown)

    def test_none_held(self):
        house = self.example(0)
        self.assertEqual(house.held(), [])
        self.assertEqual(house.sweep(), 4)
        self.assertEqual((house.floor, house.now), (6, 6))
        self.assertEqual((house.makes(1), house.makes(9)), ([(5, 5)], [(6, 2)]))

    def test_the_least_of_those_held(self):
        house = House()
        for moment in range(1, 6):
            house.put(1, moment)
            house.hold()
        house.let_go(1)
        self.assertEqual(house.sweep(), 1)
        self.assertEqual(house.floor, 2)
        house.let_go(4)
        self.assertEqual(house.sweep(), 0)
        house.let_go(2)
        house.let_go(3)
        self.assertEqual(house.sweep(), 3)
        self.assertEqual((house.floor, house.makes(1)), (5, [(5, 5)]))

    def test_the_floor_changes_by_a_sweep_alone(self):
        house = filled(range(4))
        house.hold()
        self.assertEqual(house.floor, 0)
        house.let_go(4)
        self.assertEqual(house.floor, 0)
        house.sweep()
        self.assertEqual(house.floor, 4)
        house.put(1, 1)
        house.drop(1)
        house.lay_mark()
        self.assertEqual(house.floor, 4)

    def test_held_at_the_beginning(self):
        house = House()
        house.hold()
        for again in range(3):
            house.put(1, 1)
        self.assertEqual((house.sweep(), house.floor), (0, 0))

    def test_an_empty_house(self):
        house = House()
        self.assertEqual((house.sweep(), house.floor, house.now), (0, 0, 0))

    def test_held_twice_and_let_go_once(self):
        house = filled([1])
        house.hold()
        house.hold()
        house.put(1, 4)
        house.let_go(1)
        self.assertEqual((house.sweep(), house.floor), (0, 1))
        house.let_go(1)
        self.assertEqual((house.sweep(), house.floor), (1, 2))

    def test_a_second_sweep_throws_nothing_away(self):
        for floor in range(7):
            house = self.example(floor)
            house.sweep()
            ahead = all_of(house)
            self.assertEqual(house.sweep(), 0)
            self.assertEqual(all_of(house), ahead)

    def test_a_sweep_is_no_moment_and_no_row(self):
        house = self.example(4)
        ahead = (house.now, house.diary(), house.many(), house.held())
        house.sweep()
        self.assertEqual((house.now, house.diary(), house.many(), house.held()), ahead)


class Looks(Case):
    """Points 30 and 4."""

    def example(self):
        house = House()
        house.put(3, 5)
        house.put(4, 6)
        house.drop(3)
        house.put(3, 7)
        house.put(4, 8)
        return house

    def test_was(self):
        house = self.example()
        self.assertEqual([house.was(3, moment) for moment in range(6)], [None, 5, 5, None, 7, 7])
        self.assertEqual([house.was(4, moment) for moment in range(6)], [None, None, 6, 6, 6, 8])
        self.assertEqual([house.was(9, moment) for moment in range(6)], [None] * 6)

    def test_was_a_value_of_0(self):
        house = House()
        house.put(0, 0)
        self.assertEqual((house.was(0, 0), house.was(0, 1)), (None, 0))
        self.assertEqual(house.page_at(1, Up()), ([(0, 0)], None))
        self.assertEqual(house.page_at(0, Up()), ([], None))

    def test_page_at(self):
        house = self.example()
        tables = [{}, {3: 5}, {3: 5, 4: 6}, {4: 6}, {3: 7, 4: 6}, {3: 7, 4: 8}]
        for moment, table in enumerate(tables):
            self.assertEqual(house.page_at(moment, Up()), (sorted(table.items()), None))
            self.assertEqual(house.page_at(moment, Down()), (sorted(table.items(), reverse=True), None))
        answer = house.page_at(4, Up(), 1)
        self.assertEqual(plain.told(answer), ([(3, 7)], "up 4 -"))
        self.assertEqual(plain.told(house.page_at(4, answer[1], 1)), ([(4, 6)], None))
        self.assertEqual(plain.told(house.page_at(4, Down(), 1)), ([(4, 6)], "down 3 0"))

    def test_page_at_kinds(self):
        house = filled(range(15))
        for token in (Up(), Down()):
            answer = house.page_at(15, token)
            self.assertIs(type(answer), tuple)
            self.assertIs(type(answer[0]), list)
            self.assertEqual(len(answer[0]), 10)
            self.assertIs(type(answer[1]), type(token))
            for row in answer[0]:
                self.assert_kinds(row, [int, int])

    def test_page_at_now_is_what_ask_tells(self):
        for name, house in plain.houses().items():
            for token in (Up(), Up(3), Up(3, 60), Up(7, 7), Up(FORTY), Down(), Down(60), Down(60, 3), Down(None, 3)):
                self.assertEqual(plain.told(house.page_at(house.now, token)), plain.told(ask(house, token)))
                for many in (1, 3, 10, 99, 100, 101, 500, 0):
                    answer = house.page_at(house.now, token, many)
                    self.assertEqual(plain.told(answer), plain.told(ask(house, token, many)))

    def test_too_old(self):
        house = self.example()
        for moment in (-1, -FORTY):
            self.assert_looks_refused(house, TooOld, moment)
        house.sweep()
        self.assertEqual(house.floor, 5)
        for moment in (4, 3, 1, 0, -1):
            self.assert_looks_refused(house, TooOld, moment)
        self.assertEqual(house.was(3, 5), 7)
        house.put(3, 1)
        self.assertEqual((house.was(3, 5), house.was(3, 6)), (7, 1))
        self.assert_looks_refused(house, TooOld, 4)

    def test_above_now(self):
        house = self.example()
        for moment in (6, 7, FORTY):
            self.assert_looks_refused(house, NoMoment, moment)
        house.sweep()
        self.assert_looks_refused(house, NoMoment, 6)
        house.lay_mark()
        self.assert_looks_refused(house, NoMoment, 6)
        self.assert_looks_refused(House(), NoMoment, 1)

    def assert_looks_refused(self, house, kind, moment):
        for key in (3, 9):
            self.assert_refused(house, kind, "moment", moment, house.was, key, moment)
        for token in (Up(), Down(), Up(5, 5)):
            self.assert_refused(house, kind, "moment", moment, house.page_at, moment, token)
            self.assert_refused(house, kind, "moment", moment, house.page_at, moment, token, 3)

    def test_each_moment_whatever_was_done_and_swept_since(self):
        for seed in range(12):
            chance = random.Random(seed)
            house, table, tables = House(), {}, [{}]
            keys = range(chance.choice((5, 30)))
            for step in range(150):
                deed = chance.random()
                key = chance.choice(keys)
                if deed < 0.5:
                    house.put(key, step)
                    table[key] = step
                    tables.append(dict(table))
                elif deed < 0.8 and key in table:
                    house.drop(key)
                    table.pop(key)
                    tables.append(dict(table))
                elif deed < 0.87:
                    house.hold()
                elif deed < 0.93 and house.held():
                    house.let_go(chance.choice(house.held()))
                elif deed < 0.97:
                    self.assert_swept(house, keys)
                if step % 5 == 0:
                    self.assert_looks(house, tables, keys)
            self.assert_looks(house, tables, keys)

    def assert_swept(self, house, keys):
        """A sweep throws away just what no moment from the floor on needs."""
        ahead = {key: house.makes(key) for key in keys}
        old_floor = house.floor
        floor = min(house.held() + [house.now])
        thrown = house.sweep()
        self.assertEqual(house.floor, floor)
        self.assertGreaterEqual(floor, old_floor)
        for key in keys:
            old = [make for make in ahead[key] if make[0] <= floor][-1:]
            needed = [make for make in old if make[1] is not None] + [make for make in ahead[key] if make[0] > floor]
            self.assertEqual(house.makes(key), needed)
        self.assertEqual(thrown, sum(len(ahead[key]) - len(house.makes(key)) for key in keys))

    def assert_looks(self, house, tables, keys):
        self.assertEqual(house.now, len(tables) - 1)
        for moment in range(house.now + 1):
            if moment < house.floor:
                self.assertRaises(TooOld, house.was, 0, moment)
                self.assertRaises(TooOld, house.page_at, moment, Up())
                continue
            table = tables[moment]
            self.assertEqual([house.was(key, moment) for key in keys], [table.get(key) for key in keys])
            for token in (Up(), Up(2, 9), Down(), Down(20, 3)):
                for many in (3, 100):
                    answer = house.page_at(moment, token, many)
                    self.assertEqual(plain.told(answer), plain.page(table, [4], token, many))

    def test_walked_on_to_its_end_while_the_house_is_changed(self):
        for first in (Up(), Up(5, 90), Down(), Down(80, 7)):
            chance = random.Random(30)
            house = filled(range(0, 100, 2))
            table = plain.table_of(house)
            moment = house.hold()
            rows, token = [], first
            while token is not None:
                page, token = house.page_at(moment, token, 4)
                rows += page
                for again in range(10):
                    plain.deed(house, chance, range(110))
                house.sweep()
            self.assertEqual(house.floor, moment)
            keys = [key for key in plain.in_order(first, table) if plain.holds(first, key)]
            self.assertEqual(rows, [(key, table[key]) for key in keys])
            self.assertNotEqual(plain.table_of(house), table)

    def test_of_a_house_that_was_emptied(self):
        house = filled(range(30))
        for key in range(30):
            house.drop(key)
        for moment in range(61):
            expected = dict.fromkeys(range(max(moment - 30, 0), min(moment, 30)))
            for key in expected:
                expected[key] = plain.value(key)
            self.assertEqual(table_told(house, moment), expected)
            self.assertEqual(table_told(house, moment, Down, 7), expected)


class Changes(Case):
    """Point 3."""

    def test_lists_that_were_told_are_the_askers_own(self):
        house = filled(range(5))
        house.hold()
        ahead = all_of(house)
        for told in (house.diary(), house.diary(2), house.makes(3), house.makes(77), house.held(),
                     house.page_at(5, Up())[0], house.slots.cells(), house.leaves.all_of()):
            told.append("something")
            told.reverse()
            told.pop()
        self.assertEqual(all_of(house), ahead)
        self.assertEqual(house.makes(77), [])
        told = (house.diary(), house.makes(3), house.held(), house.page_at(5, Up())[0])
        copies = tuple(list(one) for one in told)
        house.drop(3)
        house.put(2, 2)
        house.hold()
        house.let_go(5)
        house.sweep()
        self.assertEqual(told, copies)

    def test_asked_the_same_again(self):
        house = filled(range(30))
        house.hold()
        house.drop(3)
        house.sweep()
        once = (all_of(house), plain.told(house.page_at(30, Up(2, 20), 4)), house.was(3, 30), house.diary(4))
        again = (all_of(house), plain.told(house.page_at(30, Up(2, 20), 4)), house.was(3, 30), house.diary(4))
        self.assertEqual(once, again)

    def test_questions_change_nothing(self):
        for name, house in plain.houses().items():
            house.hold()
            ahead = all_of(house)
            for token in (Up(), Down(), Up(3, 50)):
                house.page_at(house.now, token, 3)
                house.page_at(house.now // 2, token)
            for key in (0, 6, 10 ** 6):
                house.has(key)
                house.makes(key)
                house.was(key, house.now // 2)
            self.assertEqual(all_of(house), ahead)


if __name__ == "__main__":
    unittest.main()
