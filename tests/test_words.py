"""Points 36 and 37, the fourth part of point 4, and point 3 as far as it bears on staywalk.words."""

import random
import unittest

import plain
from plain import FORTY, KINDS
from staywalk.asks import ask
from staywalk.errors import NoRow, NoText, NoToken, WalkError
from staywalk.tokens import BySlots, Down, Up
from staywalk.words import read_token, read_whole

SIXTY = 10 ** 60 - 1
NO_TEXTS = (None, True, False, 0, 5, -5, 5.0, [], ["5"], (), ("5",), {}, b"5", object())

# Each sign that a text may have, and some that it may not.
SIGNS = [chr(number) for number in range(32, 127)] + ["\n", "\t"]
OTHER_SIGNS = ["\r", "\0", "\v", "\f", "\x1c", "\x85", "\xa0", "\u00b2", "\u0663", "\u2007", "\u2028", "\uff15", "\u2212"]

# Texts that write a number otherwise, or none.
NO_NUMBERS = (
    "", "-", "--", "--5", "-0", "00", "05", "-05", "-00", "007", "+", "+5", "+0", "-+5", "+-5", "5-", "5+", "-5-",
    " ", " 5", "5 ", "- 5", "5 5", "\n", "5\n", "\n5", "5\n5", "\t5", "5\t", "5_5", "1_000", "_5", "5_", "5.", ".5",
    "5.0", "5,000", "1e3", "0x5", "0b1", "0o7", "5L", "5l", "A", "a", "x", "five", "None", "True", "inf", "nan", "1/2",
    "(5)", "[5]", "'5'", "\"5\"", "$5", "5#", "O", "l", "-O",
)


class Case(unittest.TestCase):

    def assert_refused(self, read, kind, text):
        with self.subTest(text=text):
            with self.assertRaises(WalkError) as taken:
                read(text)
            self.assertIs(type(taken.exception), kind)

    def assert_read(self, token):
        """The token's words are read, and tell the same token."""
        read = read_token(token.words())
        self.assertIs(type(read), type(token))
        self.assertEqual((read.at, read.end, read.words()), (token.at, token.end, token.words()))
        for bound in (read.at, read.end):
            self.assertTrue(bound is None or type(bound) is int)
        return read


class Numbers(Case):
    """Point 36."""

    def assert_number(self, text, number):
        self.assertEqual(read_whole(text), number)
        self.assertIs(type(read_whole(text)), int)

    def test_written_out(self):
        self.assert_number("0", 0)
        self.assert_number("7", 7)
        self.assert_number("10", 10)
        self.assert_number("-1", -1)
        self.assert_number("-10", -10)
        self.assert_number("65536", 65536)
        self.assert_number("1234567890", 1234567890)
        self.assert_number("-9876543210", -9876543210)

    def test_of_one_to_sixty_figures(self):
        for figures in range(1, 61):
            for number in (10 ** (figures - 1), 10 ** figures - 1, 5 * 10 ** (figures - 1) + 3, 10 ** figures // 7):
                self.assert_number(str(number), number)
                self.assert_number("-" + str(number + 1)[:60], -int(str(number + 1)[:60]))

    def test_the_greatest_and_the_least(self):
        self.assert_number("9" * 60, SIXTY)
        self.assert_number("-" + "9" * 60, -SIXTY)
        self.assert_number("1" + "0" * 59, 10 ** 59)
        self.assert_number("-1" + "0" * 59, -10 ** 59)

    def test_by_the_arguments_name(self):
        self.assertEqual(read_whole(text="-12"), -12)

    def test_refused(self):
        for text in NO_NUMBERS:
            self.assert_refused(read_whole, NoText, text)

    def test_refused_with_more_than_sixty_figures(self):
        for figures in (61, 62, 100, 4300, 4301, 10000):
            self.assert_refused(read_whole, NoText, "9" * figures)
            self.assert_refused(read_whole, NoText, "-" + "9" * figures)
            self.assert_refused(read_whole, NoText, "1" + "0" * (figures - 1))
            self.assert_refused(read_whole, NoText, "-1" + "0" * (figures - 1))

    def test_refused_with_noughts_ahead(self):
        for noughts in (1, 2, 58, 59, 60, 61):
            self.assert_refused(read_whole, NoText, "0" * noughts + "5")
            self.assert_refused(read_whole, NoText, "-" + "0" * noughts + "5")
            self.assert_refused(read_whole, NoText, "-" + "0" * noughts)
            self.assert_refused(read_whole, NoText, "0" + "0" * noughts)

    def test_any_other_sign_ahead_behind_or_within(self):
        for sign in SIGNS + OTHER_SIGNS:
            if sign in "0123456789":
                continue
            self.assert_refused(read_whole, NoText, sign)
            self.assert_refused(read_whole, NoText, "1" + sign)
            self.assert_refused(read_whole, NoText, "1" + sign + "2")
            self.assert_refused(read_whole, NoText, "-" + sign + "2")
            self.assert_refused(read_whole, NoText, "-2" + sign)
            self.assert_refused(read_whole, NoText, sign + "-2")
            if sign != "-":
                self.assert_refused(read_whole, NoText, sign + "12")

    def test_texts_of_a_few_signs(self):
        """A text is refused, or is what the number read is written as."""
        signs = "0159-+ _.\n"
        written = {str(number) for number in range(-999, 10000)}
        texts = [""]
        for length in range(4):
            texts = [text + sign for text in texts for sign in signs]
            for text in texts:
                try:
                    self.assertEqual(str(read_whole(text)), text)
                except NoText:
                    self.assertNotIn(text, written)

    def test_refused_what_is_no_text(self):
        for thing in NO_TEXTS:
            self.assert_refused(read_whole, NoText, thing)

    def test_the_refusal(self):
        self.assertTrue(issubclass(NoText, WalkError) and issubclass(NoText, ValueError))
        self.assertFalse(issubclass(NoText, (NoToken, NoRow)))


class Tokens(Case):
    """Point 37."""

    def test_the_words_of_each_kind(self):
        self.assert_read(BySlots())
        self.assert_read(BySlots(17))
        self.assert_read(BySlots(0, 0))
        self.assert_read(BySlots(65536, 65536))
        self.assert_read(BySlots(17, 20))
        self.assert_read(Up())
        self.assert_read(Up(17))
        self.assert_read(Up(17, 17))
        self.assert_read(Up(17, 20))
        self.assert_read(Down())
        self.assert_read(Down(17))
        self.assert_read(Down(None, 17))
        self.assert_read(Down(17, 17))
        self.assert_read(Down(20, 17))

    def test_written_out(self):
        for text, kind, at, end in (
                ("slots 3 65536", BySlots, 3, 65536), ("up 17 -", Up, 17, None), ("up 0 5", Up, 0, 5),
                ("down - 0", Down, None, 0), ("down 9 8", Down, 9, 8), ("down - 8", Down, None, 8)):
            token = read_token(text)
            self.assertIs(type(token), kind)
            self.assertEqual((token.at, token.end, token.words()), (at, end, text))

    def test_bounds_of_up_to_sixty_figures(self):
        for figures in (1, 2, 39, 40, 41, 59, 60):
            great = 10 ** figures - 1
            for token in (Up(great), Up(great, great), Up(0, great), Up(10 ** (figures - 1), great),
                          Down(great), Down(great, great), Down(None, great), Down(great, 10 ** (figures - 1))):
                self.assert_read(token)

    def test_holds_the_same_keys(self):
        for kind in KINDS:
            for at, end in ((0, 9), (5, 5), (9, 2000), (2000, 9), (24576, 24577), (0, FORTY), (FORTY, 3)):
                try:
                    token = kind(at, end)
                except NoToken:
                    continue
                read = self.assert_read(token)
                for key in (0, 1, 2, 4, 5, 6, 8, 9, 10, 1999, 2000, 2001, 65542, FORTY - 1, FORTY, FORTY + 1):
                    self.assertIs(read.holds(key), token.holds(key))

    def test_a_new_token_each_time(self):
        self.assertIsNot(read_token("up 1 2"), read_token("up 1 2"))

    def test_by_the_arguments_name(self):
        self.assertEqual(read_token(text="up 1 2").end, 2)

    def test_refused_with_a_word_too_few_or_too_many(self):
        for text in ("", "slots", "up", "down", "-", "5", "up 5", "down 5", "down -", "slots 0", "5 7", "- -",
                     "up 5 7 9", "slots 0 9 9", "down 9 0 0", "up 5 - -", "down - 5 -", "up up 5 7", "up 5 7 up"):
            self.assert_refused(read_token, NoToken, text)

    def test_refused_with_words_turned_about(self):
        for text in ("5 up 7", "5 7 up", "up - 5", "down 5 -", "up 7 5", "down 5 7", "slots 9 8", "- 5 down", "- up 5"):
            self.assert_refused(read_token, NoToken, text)

    def test_refused_of_another_kind(self):
        for kind in ("", "slot", "slotss", "byslots", "BySlots", "SLOTS", "Slots", "UP", "Up", "uP", "ups", "u", "DOWN",
                     "Down", "downs", "token", "-", "0", "up-", "up\n", "\nup", "\tup", "none", "keys"):
            for bounds in ("0 5", "5 5", "5 -", "- 5", "5 0"):
                self.assert_refused(read_token, NoToken, kind + " " + bounds)

    def test_refused_where_no_none_may_be(self):
        for text in ("slots - 5", "slots 0 -", "slots - -", "up - 5", "up - -", "down 5 -", "down - -",
                     "up 5 --", "down -- 5", "up 5 None", "down None 5", "up 5 none", "up 5 +", "up 5 _"):
            self.assert_refused(read_token, NoToken, text)

    def test_refused_with_a_number_that_is_none(self):
        for number in NO_NUMBERS:
            if number != "-":
                for text in ("slots 0 " + number, "slots " + number + " 65536", "up 0 " + number, "up " + number + " 9",
                             "up " + number + " -", "down 9 " + number, "down - " + number, "down " + number + " 0"):
                    self.assert_refused(read_token, NoToken, text)

    def test_refused_with_more_than_sixty_figures(self):
        for figures in (61, 62, 100, 4300, 4301, 10000):
            great = "1" * figures
            for text in ("up " + great + " -", "up 0 " + great, "up " + great + " " + great, "down - " + great,
                         "down " + great + " 0", "slots 0 " + great, "slots " + great + " 65536"):
                self.assert_refused(read_token, NoToken, text)

    def test_refused_where_the_token_is(self):
        for text in ("slots 0 65537", "slots 65537 65537", "slots 5 4", "slots -1 5", "slots -5 -4", "slots 0 -1",
                     "up 5 4", "up -1 5", "up -5 -4", "up -1 -", "up 0 -1", "down 4 5", "down -1 0", "down -1 -1",
                     "down 5 -1", "down - -1", "slots 0 " + str(SIXTY), "slots 0 " + str(FORTY)):
            self.assert_refused(read_token, NoToken, text)

    def test_refused_with_other_blanks(self):
        for words in ("slots 0 9", "up 5 -", "up 5 7", "down - 5", "down 9 5"):
            parts = words.split(" ")
            for sign in (" ", "  ", "\n", "\t", "\r", "\xa0"):
                self.assert_refused(read_token, NoToken, sign + words)
                self.assert_refused(read_token, NoToken, words + sign)
                self.assert_refused(read_token, NoToken, parts[0] + " " + sign + parts[1] + " " + parts[2])
                self.assert_refused(read_token, NoToken, parts[0] + " " + parts[1] + sign + " " + parts[2])
                if sign != " ":
                    self.assert_refused(read_token, NoToken, parts[0] + sign + parts[1] + " " + parts[2])
                    self.assert_refused(read_token, NoToken, sign.join(parts))
                    self.assert_refused(read_token, NoToken, parts[0] + " " + parts[1] + sign + parts[2])

    def test_refused_what_is_no_text(self):
        for thing in NO_TEXTS + (Up(5), ("up", "5", "7"), ["up", 5, 7], b"up 5 7"):
            self.assert_refused(read_token, NoToken, thing)

    def test_the_refusal(self):
        self.assertTrue(issubclass(NoToken, WalkError))
        self.assertFalse(issubclass(NoToken, (NoText, NoRow)))


class Bent(Case):
    """Point 4: each text is refused as a token or is the text of one token."""

    SIGNS = " -0159+_.\n\tupslotdwnUPXx"
    WORDS = ("slots", "up", "down", "-", "0", "1", "5", "00", "65536", "65537", "-1", "", " ", "\n", "Up", "9" * 60, "9" * 61)

    def bend(self, chance, text):
        at = chance.randrange(len(text) + 1)
        way = chance.randrange(5)
        if way == 0:
            return text[:at] + text[at + 1:]
        if way == 1:
            return text[:at] + chance.choice(self.SIGNS) + text[at:]
        if way == 2:
            return text[:at] + chance.choice(self.SIGNS) + text[at + 1:]
        words = text.split(" ")
        at = chance.randrange(len(words))
        if way == 3:
            words[at] = chance.choice(self.WORDS)
        else:
            words.append(words.pop(at))
        return " ".join(words)

    def texts(self, chance):
        """Texts that are bent once or more, the straight ones among them."""
        for at, end in ((0, 65536), (17, 40000), (3, 3), (40000, 17), (0, None), (None, 0), (17, None), (None, 17), (SIXTY, 5)):
            for kind in KINDS:
                try:
                    straight = kind(at, end).words()
                except NoToken:
                    continue
                yield straight
                for again in range(120):
                    text = straight
                    for step in range(chance.choice((1, 1, 1, 2, 3))):
                        text = self.bend(chance, text)
                    yield text

    def test_refused_or_the_text_of_one_token(self):
        chance = random.Random(37)
        kinds = {}
        for text in self.texts(chance):
            try:
                token = read_token(text)
            except NoToken:
                kinds[None] = kinds.get(None, 0) + 1
                continue
            self.assertEqual(token.words(), text)
            self.assertIn(type(token), KINDS)
            self.assertEqual(plain.words(type(token)(token.at, token.end)), text)
            kinds[type(token)] = kinds.get(type(token), 0) + 1
        for kind in (None,) + KINDS:
            self.assertGreater(kinds[kind], 50)

    def test_an_ask_by_it_tells_keys_that_are_kept(self):
        chance = random.Random(38)
        houses = list(plain.houses().values())
        asked = 0
        for text in self.texts(chance):
            try:
                token = read_token(text)
            except NoToken:
                continue
            asked += 1
            self.assert_walk(chance.choice(houses), token, chance.choice((1, 3, 10, 100)))
        self.assertGreater(asked, 200)

    def assert_walk(self, house, token, many):
        """A walk tells just the keys kept that its first token holds, each page those of its own token."""
        table = plain.table_of(house)
        first = token
        told = []
        while token is not None:
            rows, ahead = ask(house, read_token(token.words()), many)
            for key, value in rows:
                self.assertTrue(plain.holds(token, key))
                self.assertEqual(value, table[key])
            told += [key for key, value in rows]
            token = ahead
        self.assertEqual(told, plain.in_order(first, [key for key in table if plain.holds(first, key)]))


class Changes(Case):
    """Point 3."""

    def test_asked_the_same_again(self):
        for text in ("0", "-17", "9" * 60):
            self.assertEqual(read_whole(text), read_whole(text))
        for text in ("up 5 7", "down - 0", "slots 0 65536"):
            self.assertEqual(read_token(text).words(), read_token(text).words())
        for again in range(2):
            self.assert_refused(read_whole, NoText, "-0")
            self.assert_refused(read_token, NoToken, "up 7 5")

    def test_a_list_that_is_refused_is_not_changed(self):
        thing = ["up", "5", "7"]
        self.assert_refused(read_token, NoToken, thing)
        self.assert_refused(read_whole, NoText, thing)
        self.assertEqual(thing, ["up", "5", "7"])

    def test_what_was_told_is_read_again(self):
        house = plain.filled([SIXTY, SIXTY - 5, FORTY, FORTY - 1, 17, 0])
        for token in (Up(), Down(), BySlots()):
            while token is not None:
                token = ask(house, self.assert_read(token), 1)[1]


if __name__ == "__main__":
    unittest.main()
