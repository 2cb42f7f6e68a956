"""What points 28 to 30 say of the makes of a key, and point 3 as far as it bears on staywalk.makes."""

import random
import unittest

from staywalk.makes import Makes

FORTY = 10 ** 40 - 1
EXAMPLE = [(1, 5), (3, None), (6, 2)]


def noted(rows):
    makes = Makes()
    for moment, value in rows:
        makes.note(moment, value)
    return makes


def plain_value(rows, moment):
    """What the rows tell of the moment, read from the first one on."""
    told = None
    for at, value in rows:
        if at <= moment:
            told = value
    return told


def plain_rest(rows, floor):
    """The rows that stay: what the document says of a sweep, word by word."""
    last = max([moment for moment, value in rows if moment <= floor], default=None)
    return [
        (moment, value) for moment, value in rows
        if moment > floor or moment == last and value is not None
    ]


def some_rows(seed):
    chance = random.Random(seed)
    rows, moment = [], 0
    for step in range(chance.randrange(12)):
        moment += chance.randrange(1, 4)
        rows.append((moment, chance.choice([None, None, 0, -1, 7, FORTY])))
    return rows


class Noting(unittest.TestCase):

    def test_none_at_first(self):
        self.assertEqual(Makes().all_told(), [])
        self.assertIsNone(Makes().value_at(0))
        self.assertIsNone(Makes().value_at(FORTY))

    def test_one_for_each_deed_rising(self):
        makes = Makes()
        for many, row in enumerate(EXAMPLE, start=1):
            self.assertIsNone(makes.note(*row))
            self.assertEqual(makes.all_told(), EXAMPLE[:many])

    def test_the_same_value_again_is_one_more(self):
        self.assertEqual(noted([(1, 5), (2, 5)]).all_told(), [(1, 5), (2, 5)])

    def test_kinds(self):
        told = noted(EXAMPLE).all_told()
        self.assertIs(type(told), list)
        self.assertEqual([type(row) for row in told], [tuple] * 3)

    def test_two_have_nothing_in_common(self):
        noted(EXAMPLE)
        self.assertEqual(Makes().all_told(), [])


class ValueAt(unittest.TestCase):

    def test_each_moment_of_the_example(self):
        makes = noted(EXAMPLE)
        told = [makes.value_at(moment) for moment in range(9)]
        self.assertEqual(told, [None, 5, 5, None, None, None, 2, 2, 2])

    def test_values_of_all_sorts(self):
        makes = noted([(1, 0), (2, -1), (3, FORTY), (4, -FORTY)])
        self.assertEqual([makes.value_at(moment) for moment in range(6)], [None, 0, -1, FORTY, -FORTY, -FORTY])

    def test_many_rows(self):
        for seed in range(60):
            rows = some_rows(seed)
            makes = noted(rows)
            for moment in range(40):
                self.assertEqual(makes.value_at(moment), plain_value(rows, moment))


class Sweep(unittest.TestCase):

    def assert_swept(self, rows, floor, rest):
        makes = noted(rows)
        self.assertEqual(makes.sweep(floor), len(rows) - len(rest))
        self.assertEqual(makes.all_told(), rest)

    def test_the_documents_example(self):
        self.assert_swept(EXAMPLE, 4, [(6, 2)])
        self.assert_swept(EXAMPLE, 2, EXAMPLE)

    def test_each_floor_of_the_example(self):
        for floor in (0, 1, 2):
            self.assert_swept(EXAMPLE, floor, EXAMPLE)
        for floor in (3, 4, 5, 6, 7, FORTY):
            self.assert_swept(EXAMPLE, floor, [(6, 2)])

    def test_a_drop_at_the_floor_goes_too(self):
        self.assert_swept([(1, 5), (3, None)], 3, [])
        self.assert_swept([(1, 5), (3, None)], 2, [(1, 5), (3, None)])
        self.assert_swept([(1, 5), (3, None)], 9, [])

    def test_a_put_at_the_floor_stays(self):
        self.assert_swept([(1, 5), (3, 6)], 3, [(3, 6)])
        self.assert_swept([(1, 5), (3, 6), (4, None)], 3, [(3, 6), (4, None)])

    def test_a_value_of_nought_is_no_drop(self):
        self.assert_swept([(1, 5), (3, 0)], 4, [(3, 0)])

    def test_a_drop_behind_the_floor_stays(self):
        self.assert_swept([(5, None)], 4, [(5, None)])

    def test_without_makes(self):
        self.assert_swept([], 0, [])
        self.assert_swept([], 9, [])

    def test_swept_again_nothing_goes(self):
        makes = noted(EXAMPLE)
        self.assertEqual([makes.sweep(4), makes.sweep(4), makes.sweep(4)], [2, 0, 0])

    def test_noted_behind_a_sweep(self):
        makes = noted(EXAMPLE)
        makes.sweep(6)
        makes.note(8, None)
        self.assertEqual(makes.all_told(), [(6, 2), (8, None)])
        self.assertEqual(makes.sweep(8), 2)
        self.assertEqual(makes.all_told(), [])

    def test_many_rows(self):
        for seed in range(60):
            rows = some_rows(seed)
            for floor in range(40):
                self.assert_swept(rows, floor, plain_rest(rows, floor))

    def test_from_the_floor_on_the_answers_are_the_same(self):
        for seed in range(60):
            rows = some_rows(seed)
            makes = noted(rows)
            for floor in range(0, 40, 1 + seed % 5):
                makes.sweep(floor)
                for moment in range(floor, 42):
                    self.assertEqual(makes.value_at(moment), plain_value(rows, moment))


class Lists(unittest.TestCase):
    """Point 3: what is told is the asker's own."""

    def test_a_list_changed_by_the_asker_changes_nothing(self):
        makes = noted(EXAMPLE)
        makes.all_told().append((9, 9))
        makes.all_told().clear()
        self.assertEqual(makes.all_told(), EXAMPLE)
        self.assertEqual(makes.value_at(9), 2)

    def test_a_list_that_was_told_stays_as_it_is(self):
        makes = noted(EXAMPLE)
        told = makes.all_told()
        makes.note(7, 1)
        makes.sweep(7)
        self.assertEqual(told, EXAMPLE)

    def test_questions_change_nothing(self):
        makes = noted(EXAMPLE)
        for moment in range(9):
            self.assertEqual(makes.value_at(moment), makes.value_at(moment))
        self.assertEqual(makes.all_told(), EXAMPLE)


if __name__ == "__main__":
    unittest.main()
