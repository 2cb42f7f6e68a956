"""The interface of staywalk.errors."""

import unittest

from staywalk.errors import (
    NoKey, NoMoment, NoPart, NoRow, NoText, NoToken, OutOfTurn, TooOld, Twice, WalkError,
)

PLAIN = (NoToken, NoText, NoRow, NoPart, OutOfTurn)
WITH_KEY = (NoKey, Twice)
WITH_MOMENT = (TooOld, NoMoment)
ALL = PLAIN + WITH_KEY + WITH_MOMENT

# The last one has more figures than Python writes out by itself.
NUMBERS = (0, 1, -1, 65536, 10 ** 40 - 1, 10 ** 5000)


def made(kind):
    return kind("some words") if kind in PLAIN else kind(7)


def caught(error, kind):
    """Whether the error, raised, is taken by an except of this kind."""
    try:
        raise error
    except kind:
        return True
    except BaseException:
        return False


class Refusals(unittest.TestCase):

    def test_there_are_nine(self):
        self.assertEqual(len(set(ALL)), 9)

    def test_each_is_caught_as_walk_error_and_value_error(self):
        for kind in ALL:
            with self.subTest(kind=kind):
                self.assertTrue(caught(made(kind), kind))
                self.assertTrue(caught(made(kind), WalkError))
                self.assertTrue(caught(made(kind), ValueError))

    def test_none_is_caught_as_another_one(self):
        for kind in ALL:
            for other in ALL:
                if other is not kind:
                    with self.subTest(kind=kind, other=other):
                        self.assertFalse(caught(made(kind), other))
                        self.assertFalse(issubclass(kind, other))

    def test_walk_error_itself(self):
        self.assertTrue(issubclass(WalkError, ValueError))
        self.assertTrue(caught(WalkError("some words"), ValueError))
        for kind in ALL:
            self.assertFalse(caught(WalkError("some words"), kind))

    def test_no_refusal_is_another_error_of_pythons(self):
        for kind in ALL:
            for other in (KeyError, IndexError, TypeError, UnicodeError):
                with self.subTest(kind=kind, other=other):
                    self.assertFalse(caught(made(kind), other))


class Fields(unittest.TestCase):

    def test_key(self):
        for kind in WITH_KEY:
            for key in NUMBERS:
                self.assertTrue(kind(key).key == key)

    def test_moment(self):
        for kind in WITH_MOMENT:
            for moment in NUMBERS:
                self.assertTrue(kind(moment).moment == moment)

    def test_by_the_arguments_name(self):
        for kind in WITH_KEY:
            self.assertEqual(kind(key=5).key, 5)
        for kind in WITH_MOMENT:
            self.assertEqual(kind(moment=5).moment, 5)

    def test_field_is_there_where_it_is_caught(self):
        for kind in WITH_KEY:
            with self.assertRaises(WalkError) as taken:
                raise kind(65542)
            self.assertEqual(taken.exception.key, 65542)
        for kind in WITH_MOMENT:
            with self.assertRaises(WalkError) as taken:
                raise kind(12)
            self.assertEqual(taken.exception.moment, 12)

    def test_each_error_has_its_own_field(self):
        for kind in WITH_KEY:
            first, second = kind(1), kind(2)
            self.assertEqual((first.key, second.key), (1, 2))
        for kind in WITH_MOMENT:
            first, second = kind(1), kind(2)
            self.assertEqual((first.moment, second.moment), (1, 2))

    def test_words_can_be_written_for_any_number(self):
        for kind in WITH_KEY + WITH_MOMENT:
            for number in NUMBERS:
                self.assertIsInstance(str(kind(number)), str)


if __name__ == "__main__":
    unittest.main()
