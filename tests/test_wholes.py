"""Point 2, and point 3 as far as it bears on staywalk.wholes."""

import unittest

from staywalk.wholes import is_whole

FORTY = 10 ** 40 - 1


class IsWhole(unittest.TestCase):

    def test_whole_numbers(self):
        for thing in (0, 1, 2, 17, 65535, 65536, 10 ** 39, FORTY):
            with self.subTest(thing=thing):
                self.assertIs(is_whole(thing), True)

    def test_whole_numbers_below_nought(self):
        for thing in (-1, -2, -65536, -(10 ** 39), -FORTY):
            with self.subTest(thing=thing):
                self.assertIs(is_whole(thing), True)

    def test_truths_are_none(self):
        self.assertIs(is_whole(True), False)
        self.assertIs(is_whole(False), False)

    def test_other_kinds_are_none(self):
        others = (None, "", "5", "-5", (), (5,), [], [5], {}, {5: 5}, 5.0, b"5", {5}, int, object())
        for thing in others:
            with self.subTest(thing=thing):
                self.assertIs(is_whole(thing), False)

    def test_what_is_handed_in_is_not_changed(self):
        some_list = [1, [2], {"a": 3}]
        some_dict = {"a": [1, 2]}
        for again in range(2):
            self.assertIs(is_whole(some_list), False)
            self.assertIs(is_whole(some_dict), False)
        self.assertEqual(some_list, [1, [2], {"a": 3}])
        self.assertEqual(some_dict, {"a": [1, 2]})

    def test_asked_again_the_answer_is_the_same(self):
        for thing, answer in ((5, True), (True, False), (1, True), (False, False), (0, True), (5, True)):
            self.assertIs(is_whole(thing), answer)


if __name__ == "__main__":
    unittest.main()
