"""Point 40, as far as staywalk.orders reads the rows."""

import unittest

from staywalk.errors import NoRow
from staywalk.orders import read_order
from staywalk.tokens import BySlots, Down, Up


class Orders(unittest.TestCase):

    def assert_order(self, row, first, **numbers):
        self.assertEqual(read_order(row), (first, numbers))

    def assert_token(self, row, kind, at, end):
        given = read_order(row)[1]
        token = given["TOKEN"]
        self.assertIs(type(token), kind)
        self.assertEqual((token.at, token.end), (at, end))
        return given

    def test_rows_without_things(self):
        for row in ("many", "hold", "sweep", "now", "open", "close", "show", "total", "stop", "keep"):
            self.assert_order(row, row)

    def test_rows_with_numbers(self):
        self.assert_order("put 5 -7", "put", KEY=5, VALUE=-7)
        self.assert_order("drop 0", "drop", KEY=0)
        self.assert_order("get 5", "get", KEY=5)
        self.assert_order("free 6", "free", MOMENT=6)
        self.assert_order("at 5 6", "at", KEY=5, MOMENT=6)
        self.assert_order("read 100", "read", MANY=100)
        self.assert_order("follow 101", "follow", STEPS=101)
        self.assert_order("covers 5", "covers", KEY=5)

    def test_rows_with_a_token(self):
        self.assertEqual(self.assert_token("page slots 3 9 4", BySlots, 3, 9)["MANY"], 4)
        self.assertEqual(self.assert_token("page up 3 - 1", Up, 3, None)["MANY"], 1)
        given = self.assert_token("past 8 down - 3 100", Down, None, 3)
        self.assertEqual((given["MOMENT"], given["MANY"]), (8, 100))
        self.assertEqual(list(self.assert_token("copy down 9 3", Down, 9, 3)), ["TOKEN"])

    def test_refused(self):
        for row in ("", "PUT 5 7", "put 5", "put 5 7 9", "past 8 slots 3 9 4", "page up 3 -", "read 101", None, ["now"]):
            with self.assertRaises(NoRow):
                read_order(row)

    def test_a_dict_of_its_own_each_time(self):
        first = read_order("put 5 7")[1]
        first["KEY"] = 6
        self.assert_order("put 5 7", "put", KEY=5, VALUE=7)


if __name__ == "__main__":
    unittest.main()
