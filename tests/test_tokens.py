"""Point 20, and point 3 as far as it bears on staywalk.tokens."""

import unittest

from staywalk.errors import NoToken, WalkError
from staywalk.tokens import BySlots, Down, Token, Up

FORTY = 10 ** 40 - 1
KINDS = (BySlots, Up, Down)

# What is no whole number, and None nowhere among them, as it may stand in two places.
NO_WHOLES = (True, False, "", "5", "0", "-", 5.0, 0.0, (), (5,), [], [5], {}, b"5", object())


class Case(unittest.TestCase):

    def assert_refused(self, kind, *bounds):
        with self.subTest(kind=kind, bounds=bounds):
            with self.assertRaises(NoToken):
                kind(*bounds)

    def assert_token(self, token, at, end, words):
        self.assertEqual((token.at, token.end), (at, end))
        self.assertEqual((type(token.at), type(token.end)), (type(at), type(end)))
        self.assertEqual(token.words(), words)

    def assert_holds(self, token, held, not_held):
        for key in held:
            self.assertIs(token.holds(key), True, (token.words(), key))
        for key in not_held:
            self.assertIs(token.holds(key), False, (token.words(), key))


class Kinds(Case):

    def test_each_is_under_token_and_none_under_another(self):
        for kind in KINDS:
            self.assertIsNot(kind, Token)
            self.assertTrue(issubclass(kind, Token))
            self.assertIsInstance(kind(), Token)
            for other in KINDS:
                self.assertEqual(issubclass(kind, other), kind is other)

    def test_the_refusal_is_a_walk_error(self):
        for kind in KINDS:
            self.assertRaises(WalkError, kind, -1, -1)

    def test_arguments_by_name(self):
        for kind in KINDS:
            self.assertEqual((kind(at=9, end=9).at, kind(at=9, end=9).end), (9, 9))
        self.assert_token(BySlots(end=7), 0, 7, "slots 0 7")
        self.assert_token(Up(end=7), 0, 7, "up 0 7")
        self.assert_token(Down(end=7), None, 7, "down - 7")


class Slots(Case):

    def test_left_out(self):
        self.assert_token(BySlots(), 0, 65536, "slots 0 65536")
        self.assert_token(BySlots(7), 7, 65536, "slots 7 65536")

    def test_both_bounds(self):
        self.assert_token(BySlots(16384, 32768), 16384, 32768, "slots 16384 32768")
        for at, end in ((0, 0), (0, 1), (65535, 65536), (65536, 65536), (9, 9)):
            self.assert_token(BySlots(at, end), at, end, f"slots {at} {end}")

    def test_holds_all(self):
        self.assert_holds(BySlots(), (0, 1, 6, 65535, 65536, 65542, 10 ** 39, FORTY), ())

    def test_holds_none_where_at_is_end(self):
        for at in (0, 24576, 65536):
            self.assert_holds(BySlots(at, at), (), (0, 6, 65535, 65542, FORTY))

    def test_at_the_bounds_and_beside_them(self):
        # 6 and 65542 have the place 24576.
        for at, end in ((24576, 24577), (0, 24577), (24576, 65536), (24575, 24578)):
            self.assert_holds(BySlots(at, end), (6, 65542), ())
        for at, end in ((0, 24576), (24577, 65536), (24576, 24576)):
            self.assert_holds(BySlots(at, end), (), (6, 65542))

    def test_the_stretch_of_a_slot(self):
        self.assert_holds(BySlots(16384, 32768), (2, 6, 10, 65538), (0, 1, 3, 4, 5, 16384, 20000, 65536))

    def test_the_first_and_the_last_place(self):
        self.assert_holds(BySlots(0, 1), (0, 65536), (1, 32768, 65535, FORTY))
        self.assert_holds(BySlots(65535, 65536), (65535, 131071, FORTY), (0, 65534, 65536))

    def test_refused(self):
        for bounds in ((-1,), (-1, 5), (0, -1), (-2, -1), (6, 5), (65536, 65535), (1, 0), (-FORTY, 0)):
            self.assert_refused(BySlots, *bounds)
        for bounds in ((65537,), (0, 65537), (65537, 65537), (65536, 65537), (FORTY, FORTY), (0, FORTY)):
            self.assert_refused(BySlots, *bounds)

    def test_refused_what_is_no_whole_number(self):
        for thing in NO_WHOLES + (None,):
            self.assert_refused(BySlots, thing)
            self.assert_refused(BySlots, thing, 65536)
            self.assert_refused(BySlots, 0, thing)
            self.assert_refused(BySlots, thing, thing)


class GoingUp(Case):

    def test_left_out(self):
        self.assert_token(Up(), 0, None, "up 0 -")
        self.assert_token(Up(17), 17, None, "up 17 -")

    def test_both_bounds(self):
        for at, end in ((0, 0), (0, 1), (17, 17), (17, 18), (65536, 65537), (10 ** 39, FORTY)):
            self.assert_token(Up(at, end), at, end, f"up {at} {end}")
        self.assert_token(Up(17, None), 17, None, "up 17 -")
        self.assert_token(Up(FORTY), FORTY, None, "up " + "9" * 40 + " -")
        # As told behind the greatest key of all, and handed in again.
        self.assert_token(Up(FORTY + 1), FORTY + 1, None, "up 1" + "0" * 40 + " -")

    def test_holds_without_an_end(self):
        self.assert_holds(Up(), (0, 1, 65536, FORTY), ())
        self.assert_holds(Up(17), (17, 18, 65536, FORTY), (0, 15, 16))
        self.assert_holds(Up(FORTY), (FORTY,), (0, FORTY - 1))

    def test_holds_with_an_end(self):
        self.assert_holds(Up(17, 20), (17, 18, 19), (0, 16, 20, 21, 65536, FORTY))
        self.assert_holds(Up(0, 1), (0,), (1, 2, FORTY))
        self.assert_holds(Up(0, 0), (), (0, 1, FORTY))
        self.assert_holds(Up(17, 17), (), (0, 16, 17, 18))

    def test_refused(self):
        for bounds in ((-1,), (-1, 5), (-1, None), (0, -1), (-2, -1), (6, 5), (1, 0), (FORTY, FORTY - 1), (-FORTY,)):
            self.assert_refused(Up, *bounds)

    def test_refused_what_is_no_whole_number(self):
        for thing in NO_WHOLES:
            self.assert_refused(Up, thing)
            self.assert_refused(Up, thing, 9)
            self.assert_refused(Up, thing, None)
            self.assert_refused(Up, 0, thing)
            self.assert_refused(Up, thing, thing)

    def test_none_may_not_stand_as_at(self):
        for bounds in ((None,), (None, None), (None, 5), (None, 0)):
            self.assert_refused(Up, *bounds)


class GoingDown(Case):

    def test_left_out(self):
        self.assert_token(Down(), None, 0, "down - 0")
        self.assert_token(Down(17), 17, 0, "down 17 0")

    def test_both_bounds(self):
        for at, end in ((0, 0), (1, 0), (17, 17), (18, 17), (65537, 65536), (FORTY, 10 ** 39)):
            self.assert_token(Down(at, end), at, end, f"down {at} {end}")
        self.assert_token(Down(None, 17), None, 17, "down - 17")
        self.assert_token(Down(None, FORTY), None, FORTY, "down - " + "9" * 40)

    def test_holds_from_above_all(self):
        self.assert_holds(Down(), (0, 1, 65536, FORTY), ())
        self.assert_holds(Down(None, 17), (17, 18, 65536, FORTY), (0, 15, 16))

    def test_holds_from_a_key(self):
        self.assert_holds(Down(17), (0, 1, 16, 17), (18, 19, 65536, FORTY))
        self.assert_holds(Down(20, 17), (17, 18, 19, 20), (0, 16, 21, 22, FORTY))
        self.assert_holds(Down(17, 17), (17,), (0, 16, 18))
        self.assert_holds(Down(0, 0), (0,), (1, 2, FORTY))
        self.assert_holds(Down(0), (0,), (1, 2, FORTY))

    def test_refused(self):
        for bounds in ((-1,), (-1, -1), (None, -1), (5, -1), (5, 6), (0, 1), (FORTY - 1, FORTY), (-FORTY, 0)):
            self.assert_refused(Down, *bounds)

    def test_refused_what_is_no_whole_number(self):
        for thing in NO_WHOLES:
            self.assert_refused(Down, thing)
            self.assert_refused(Down, thing, 0)
            self.assert_refused(Down, 9, thing)
            self.assert_refused(Down, None, thing)
            self.assert_refused(Down, thing, thing)

    def test_none_may_not_stand_as_end(self):
        for bounds in ((None, None), (5, None), (0, None)):
            self.assert_refused(Down, *bounds)


class NeverChanging(Case):

    def test_questions_change_nothing(self):
        for token in (BySlots(5, 9), Up(5, 9), Up(5), Down(9, 5), Down()):
            ahead = (token.at, token.end, token.words())
            for key in (0, 5, 7, 9, FORTY):
                self.assertIs(token.holds(key), token.holds(key))
            self.assertEqual((token.at, token.end, token.words()), ahead)

    def test_each_has_its_own_bounds(self):
        tokens = [BySlots(1, 2), BySlots(), Up(3, 4), Up(), Down(6, 5), Down()]
        words = ["slots 1 2", "slots 0 65536", "up 3 4", "up 0 -", "down 6 5", "down - 0"]
        self.assertEqual([token.words() for token in tokens], words)

    def test_a_refused_one_changes_nothing_of_others(self):
        token = Up(3, 4)
        self.assert_refused(Up, 4, 3)
        self.assert_token(token, 3, 4, "up 3 4")


if __name__ == "__main__":
    unittest.main()
