"""Points 39 to 42, and point 3 as far as it bears on staywalk.desk."""

import unittest

from plain import FORTY
from staywalk.desk import Desk
from staywalk.errors import NoKey, NoMoment, NoRow, NoText, NoToken, OutOfTurn, TooOld, WalkError

SIXTY = 10 ** 60 - 1

# One row of each form; behind `copy` all of them are rows, whatever they are answered.
ROWS = (
    "put 5 7", "drop 5", "get 5", "many", "page up 0 - 10", "page slots 0 65536 10", "page down - 0 10", "hold", "free 3",
    "sweep", "now", "at 5 3", "past 3 up 0 - 10", "past 3 down - 0 10", "copy up 0 -", "open", "read 10", "close",
    "follow 5", "show", "covers 5", "total", "stop", "keep",
)
OF_COPIER = ("open", "read 10", "close", "follow 5", "show", "covers 5", "total", "stop")
FIRST_WORDS = sorted({row.split(" ")[0] for row in ROWS})

NO_NUMBERS = ("", "-", "--5", "-0", "00", "05", "+5", "5-", "5.", "5.0", "5_5", "5,5", "1e3", "x", "5x", "0x5", "\n5", "5\n",
              "\t5", "5\t", "\u0665", "\u00b2", "None", "KEY", "1" * 61, "-" + "1" * 61, "1" * 4301)


def desk_of(*rows):
    desk = Desk()
    for row in rows:
        desk.say(row)
    return desk


def some_desk():
    """A desk with keys, a moment held, an old moment swept away, and a copier with half a copy."""
    return desk_of("put 5 50", "put 5 51", "put 6 60", "put 7 70", "hold", "put 8 80", "drop 6", "sweep", "copy up 0 -",
                   "open", "read 1", "close", "follow 9", "put 5 52", "follow 1")


def state(desk):
    """What the questions of a desk tell."""
    now = desk.say("now")[0].split(" ")
    told = [desk.say(row) for row in ("now", "many", "keep", "page slots 0 65536 100", f"past {now[1]} up 0 - 100")]
    try:
        told += [desk.say(row) for row in ("show", "total", "covers 5", "covers 6", "follow 0")]
    except OutOfTurn:
        told.append(None)
    return told


class Case(unittest.TestCase):

    def assert_said(self, desk, row, *answer):
        told = desk.say(row)
        self.assertEqual(told, list(answer), row)
        self.assertIs(type(told), list)
        self.assertEqual([text for text in told if type(text) is not str], [])

    def assert_refused(self, desk, row, kind):
        """The row is refused so, and nothing is changed; told is the error."""
        with self.subTest(row=row):
            ahead = state(desk)
            with self.assertRaises(WalkError) as taken:
                desk.say(row)
            self.assertIs(type(taken.exception), kind)
            self.assertEqual(state(desk), ahead)
            return taken.exception


class New(Case):

    def test_an_empty_house_and_no_copier(self):
        desk = Desk()
        self.assert_said(desk, "many", "0")
        self.assert_said(desk, "now", "0 0")
        self.assert_said(desk, "keep")
        for row in OF_COPIER:
            self.assert_refused(desk, row, OutOfTurn)

    def test_each_desk_has_its_own(self):
        first, second = Desk(), Desk()
        first.say("put 5 7")
        first.say("copy up 0 -")
        self.assert_said(second, "keep")
        self.assert_refused(second, "show", OutOfTurn)
        second.say("put 6 8")
        self.assert_said(first, "keep", "5 7")
        self.assert_said(first, "follow 5", "1")

    def test_by_the_arguments_name(self):
        self.assertEqual(Desk().say(row="now"), ["0 0"])


class OfTheHouse(Case):
    """Point 42, the rows that speak of the house."""

    def test_put_get_drop_many(self):
        desk = Desk()
        self.assert_said(desk, "put 5 7")
        self.assert_said(desk, "put 0 -7")
        self.assert_said(desk, "get 5", "7")
        self.assert_said(desk, "get 0", "-7")
        self.assert_said(desk, "many", "2")
        self.assert_said(desk, "put 5 0")
        self.assert_said(desk, "get 5", "0")
        self.assert_said(desk, "many", "2")
        self.assert_said(desk, "drop 5")
        self.assert_said(desk, "many", "1")
        self.assertEqual(self.assert_refused(desk, "get 5", NoKey).key, 5)

    def test_forty_and_sixty_figures(self):
        desk = Desk()
        for key in (FORTY, SIXTY):
            for number in (FORTY, -FORTY, SIXTY, -SIXTY):
                self.assert_said(desk, f"put {key} {number}")
                self.assert_said(desk, f"get {key}", str(number))
        self.assert_said(desk, "keep", f"{FORTY} {-SIXTY}", f"{SIXTY} {-SIXTY}")
        self.assert_said(desk, "page up 0 - 1", f"{FORTY} {-SIXTY}", f"next up {FORTY + 1} -")
        self.assert_said(desk, f"page down {SIXTY} {FORTY} 1", f"{SIXTY} {-SIXTY}", f"next down {SIXTY - 1} {FORTY}")
        desk.say("copy slots 0 65536")
        desk.say("open")
        self.assert_said(desk, "read 2", "2")
        desk.say("close")
        self.assert_said(desk, f"follow {SIXTY}", "10")
        self.assert_said(desk, "total", str(-2 * SIXTY))
        self.assert_said(desk, f"covers {SIXTY}", "yes")
        self.assertEqual(self.assert_refused(desk, f"drop {SIXTY - 1}", NoKey).key, SIXTY - 1)
        self.assertEqual(self.assert_refused(desk, f"at 5 {SIXTY}", NoMoment).moment, SIXTY)
        self.assertEqual(self.assert_refused(desk, f"free {SIXTY}", NoMoment).moment, SIXTY)
        self.assertEqual(self.assert_refused(desk, f"past {SIXTY} up 0 - 1", NoMoment).moment, SIXTY)

    def test_page_up(self):
        desk = desk_of("put 30 3", "put 10 -1", "put 20 2")
        self.assert_said(desk, "page up 0 - 10", "10 -1", "20 2", "30 3", "end")
        self.assert_said(desk, "page up 0 - 3", "10 -1", "20 2", "30 3", "end")
        self.assert_said(desk, "page up 0 - 2", "10 -1", "20 2", "next up 21 -")
        self.assert_said(desk, "page up 21 - 2", "30 3", "end")
        self.assert_said(desk, "page up 11 30 1", "20 2", "end")
        self.assert_said(desk, "page up 10 31 1", "10 -1", "next up 11 31")
        self.assert_said(desk, "page up 31 - 100", "end")
        self.assert_said(desk, "page up 10 10 1", "end")

    def test_page_down(self):
        desk = desk_of("put 30 3", "put 10 -1", "put 20 2")
        self.assert_said(desk, "page down - 0 10", "30 3", "20 2", "10 -1", "end")
        self.assert_said(desk, "page down - 0 1", "30 3", "next down 29 0")
        self.assert_said(desk, "page down 29 0 1", "20 2", "next down 19 0")
        self.assert_said(desk, "page down 19 0 1", "10 -1", "end")
        self.assert_said(desk, "page down - 20 1", "30 3", "next down 29 20")
        self.assert_said(desk, "page down 9 9 1", "end")

    def test_page_by_slots(self):
        desk = desk_of("put 3 30", "put 1 10", "put 2 20", "put 0 0")
        self.assert_said(desk, "page slots 0 65536 1", "0 0", "next slots 16384 65536")
        self.assert_said(desk, "page slots 16384 65536 2", "2 20", "1 10", "next slots 49152 65536")
        self.assert_said(desk, "page slots 49152 65536 1", "3 30", "end")
        self.assert_said(desk, "page slots 7 7 1", "end")
        self.assert_said(desk, "page slots 1 32768 100", "2 20", "end")
        desk = Desk()
        self.assert_said(desk, "page slots 0 65536 1", "end")
        for key in range(20):
            desk.say(f"put {key} 0")
        for again in range(40):
            desk.say("put 0 9")
        for key in range(1, 20):
            desk.say(f"drop {key}")
        # In a row of 32 slots that begins to be halved, 4 stretches of 4096 places each.
        self.assert_said(desk, "page slots 1 65536 1", "next slots 16384 65536")

    def test_hold_free_sweep_now(self):
        desk = Desk()
        self.assert_said(desk, "hold", "0")
        self.assert_said(desk, "free 0")
        desk.say("put 5 1")
        desk.say("put 5 2")
        self.assert_said(desk, "now", "2 0")
        self.assert_said(desk, "hold", "2")
        self.assert_said(desk, "hold", "2")
        desk.say("put 5 3")
        desk.say("drop 5")
        self.assert_said(desk, "now", "4 0")
        self.assert_said(desk, "sweep", "1")
        self.assert_said(desk, "now", "4 2")
        self.assert_said(desk, "free 2")
        self.assert_said(desk, "sweep", "0")
        self.assert_said(desk, "free 2")
        self.assertEqual(self.assert_refused(desk, "free 2", NoMoment).moment, 2)
        self.assert_said(desk, "sweep", "3")
        self.assert_said(desk, "now", "4 4")

    def test_at(self):
        desk = desk_of("put 5 0", "put 6 -6", "put 5 51", "drop 5", "put 5 52")
        for moment, answer in enumerate(("none", "0", "0", "51", "none", "52")):
            self.assert_said(desk, f"at 5 {moment}", answer)
        self.assert_said(desk, "at 6 1", "none")
        self.assert_said(desk, "at 6 5", "-6")
        self.assert_said(desk, "at 7 5", "none")

    def test_past(self):
        desk = desk_of("put 5 50", "put 6 -60", "put 7 70", "drop 6", "put 5 51", "put 8 80")
        self.assert_said(desk, "past 0 up 0 - 10", "end")
        self.assert_said(desk, "past 3 up 0 - 10", "5 50", "6 -60", "7 70", "end")
        self.assert_said(desk, "past 3 up 0 - 2", "5 50", "6 -60", "next up 7 -")
        self.assert_said(desk, "past 3 up 7 - 2", "7 70", "end")
        self.assert_said(desk, "past 3 down - 0 1", "7 70", "next down 6 0")
        self.assert_said(desk, "past 3 down 6 0 100", "6 -60", "5 50", "end")
        self.assert_said(desk, "past 4 up 6 7 1", "end")
        self.assert_said(desk, "past 6 up 0 8 2", "5 51", "7 70", "end")
        self.assert_said(desk, "past 6 down - 7 1", "8 80", "next down 7 7")

    def test_keep(self):
        desk = Desk()
        self.assert_said(desk, "keep")
        for key in (300, 4, 65536, 10):
            desk.say(f"put {key} {4 - key}")
        self.assert_said(desk, "keep", "4 0", "10 -6", "300 -296", "65536 -65532")
        for key in (300, 4, 65536, 10):
            desk.say(f"drop {key}")
        self.assert_said(desk, "keep")


class OfTheCopier(Case):
    """Point 42, the rows that speak of the copier."""

    def test_a_page_and_its_steps(self):
        desk = desk_of("put 5 50", "put 6 -60", "put 7 70")
        self.assert_said(desk, "copy up 0 -")
        self.assert_said(desk, "follow 0", "3")
        self.assert_said(desk, "show")
        self.assert_said(desk, "total", "0")
        self.assert_said(desk, "covers 5", "no")
        self.assert_said(desk, "open")
        self.assert_said(desk, "read 2", "2")
        self.assert_said(desk, "close")
        self.assert_said(desk, "show")
        self.assert_said(desk, "follow 1", "4")
        self.assert_said(desk, "show")
        self.assert_said(desk, "follow 100", "5")
        self.assert_said(desk, "show", "5 50", "6 -60")
        self.assert_said(desk, "total", "-10")
        self.assert_said(desk, "covers 5", "yes")
        self.assert_said(desk, "covers 6", "yes")
        self.assert_said(desk, "covers 7", "no")
        self.assert_said(desk, "covers 0", "yes")

    def test_show_is_rising(self):
        desk = desk_of("put 10 1", "put 9 2", "put 200 3", "put 65536 4", "copy down - 0", "open", "read 2", "close", "follow 9")
        self.assert_said(desk, "show", "200 3", "65536 4")
        desk.say("open")
        self.assert_said(desk, "read 9", "2")
        desk.say("close")
        desk.say("follow 9")
        self.assert_said(desk, "show", "9 2", "10 1", "200 3", "65536 4")
        desk.say("put 100 -5")
        desk.say("drop 10")
        desk.say("follow 2")
        self.assert_said(desk, "show", "9 2", "100 -5", "200 3", "65536 4")
        self.assert_said(desk, "total", "4")

    def test_read_of_a_page_with_no_rows(self):
        desk = desk_of("copy slots 0 65536", "open")
        self.assert_said(desk, "read 1", "0")

    def test_read_tells_the_rows_of_the_page_by_slots(self):
        desk = desk_of("put 0 1", "put 4 1", "put 8 1", "copy slots 0 65536", "open")
        self.assert_said(desk, "read 1", "3")

    def test_out_of_turn(self):
        desk = desk_of("put 5 50", "copy up 0 -")
        for row in ("read 5", "close"):
            self.assert_refused(desk, row, OutOfTurn)
        desk.say("open")
        for row in ("open", "close"):
            self.assert_refused(desk, row, OutOfTurn)
        desk.say("read 5")
        for row in ("open", "read 5"):
            self.assert_refused(desk, row, OutOfTurn)
        desk.say("close")
        for again in range(2):
            for row in ("open", "read 5", "close"):
                self.assert_refused(desk, row, OutOfTurn)
            desk.say("follow 1")
        for row in ("open", "read 5", "close"):
            self.assert_refused(desk, row, OutOfTurn)
        self.assert_said(desk, "show", "5 50")

    def test_copy_in_the_place_of_one_that_was_there(self):
        desk = desk_of("put 5 50", "put 6 60", "copy up 0 -", "open", "read 1", "close", "follow 9")
        self.assert_said(desk, "show", "5 50")
        self.assert_said(desk, "copy down - 6")
        self.assert_said(desk, "show")
        self.assert_said(desk, "total", "0")
        self.assert_said(desk, "follow 0", "4")
        self.assert_said(desk, "covers 5", "no")
        desk.say("open")
        self.assert_said(desk, "copy up 0 6")
        self.assert_said(desk, "open")
        self.assert_said(desk, "read 9", "1")
        self.assert_said(desk, "close")
        self.assert_said(desk, "follow 9", "7")
        self.assert_said(desk, "show", "5 50")
        self.assert_said(desk, "covers 6", "no")

    def test_a_copy_that_is_refused_leaves_the_one_that_was_there(self):
        desk = some_desk()
        for row in ("copy up 7 5", "copy up 0", "copy", "copy slots 0 65537", "copy Up 0 -"):
            self.assert_refused(desk, row, NoRow)
        self.assert_said(desk, "show", "5 52")

    def test_stop_goes_on_from_what_was_told(self):
        desk = desk_of("put 5 50", "put 6 60", "put 7 70", "copy up 0 7", "open", "read 1", "close", "follow 1")
        self.assert_said(desk, "stop")
        # The page was not copied yet, so it is forgotten.
        self.assert_said(desk, "follow 9", "5")
        self.assert_said(desk, "show")
        self.assert_said(desk, "open")
        self.assert_said(desk, "read 1", "1")
        self.assert_said(desk, "close")
        self.assert_said(desk, "follow 9", "7")
        self.assert_said(desk, "show", "5 50")
        desk.say("put 5 51")
        self.assert_said(desk, "stop")
        self.assert_said(desk, "show", "5 50")
        self.assert_said(desk, "covers 5", "yes")
        self.assert_said(desk, "covers 6", "no")
        self.assert_said(desk, "follow 0", "7")
        self.assert_said(desk, "follow 1", "8")
        self.assert_said(desk, "show", "5 51")
        for row in ("open", "read 9", "close", "follow 9", "stop"):
            desk.say(row)
        self.assert_said(desk, "show", "5 51", "6 60")
        self.assert_said(desk, "covers 6", "yes")
        self.assert_said(desk, "covers 7", "no")
        self.assert_refused(desk, "open", OutOfTurn)

    def test_stop_of_a_page_that_was_opened_or_read(self):
        desk = desk_of("put 5 50", "copy up 0 -", "open", "stop", "open", "read 1", "put 5 51", "stop", "open", "read 1", "close")
        self.assert_said(desk, "follow 9", "6")
        self.assert_said(desk, "show", "5 51")

    def test_what_the_marks_are_is_no_moment(self):
        desk = desk_of("put 5 50", "copy up 0 -", "open", "read 1", "close", "follow 9", "stop")
        self.assert_said(desk, "now", "1 0")


class Refused(Case):
    """Points 40 and 41."""

    def assert_none(self, row):
        self.assert_refused(self.bare, row, NoRow)
        self.assert_refused(self.desk, row, NoRow)

    def setUp(self):
        self.bare = Desk()
        self.desk = some_desk()

    def test_what_is_no_text(self):
        for thing in (None, True, False, 0, 5, 5.0, [], ["now"], ["put", "5", "7"], (), ("now",), {}, b"now", object()):
            self.assert_none(thing)

    def test_no_words(self):
        for row in ("", " ", "  ", "\n", "\t"):
            self.assert_none(row)

    def test_blanks_ahead_behind_or_two_together(self):
        for row in ROWS:
            for sign in (" ", "  ", "\n", "\t", "\r", "\xa0"):
                self.assert_none(sign + row)
                self.assert_none(row + sign)
            at = row.find(" ")
            while at >= 0:
                for between in ("  ", "\t", "\n", " \t", "\n ", ""):
                    self.assert_none(row[:at] + between + row[at + 1:])
                at = row.find(" ", at + 1)

    def test_another_first_word(self):
        for word in ("puts", "pu", "del", "set", "has", "mark", "diary", "makes", "held", "let_go", "ask", "parts", "next",
                     "end", "none", "KEY", "5", "-", "up", "help", "quit", "Put", "place", "left", "stopped", "answer_put"):
            for rest in ("", " 5", " 5 7", " up 0 -", " up 0 - 5"):
                self.assert_none(word + rest)

    def test_great_letters(self):
        for row in ROWS:
            word, blank, rest = row.partition(" ")
            self.assert_none(row.upper())
            self.assert_none(word.upper() + blank + rest)
            self.assert_none(word.title() + blank + rest)
            self.assert_none(word[:-1] + word[-1].upper() + blank + rest)
            if "p " in rest or "down" in rest or "slots" in rest:
                self.assert_none(word + blank + rest.upper())
                self.assert_none(word + blank + rest.title())

    def test_a_word_too_few(self):
        for row in ROWS:
            words = row.split(" ")
            for least in range(1, len(words)):
                self.assert_none(" ".join(words[:least]))
            for at in range(len(words)):
                if len(words) > 1:
                    self.assert_none(" ".join(words[:at] + words[at + 1:]))

    def test_a_word_too_many(self):
        for row in ROWS:
            for more in ("5", "-", "0", "up", "now", "many", "up 0 -", row):
                self.assert_none(row + " " + more)
                self.assert_none(more + " " + row)

    def test_first_words_with_other_things(self):
        lengths = {word: {len(row.split(" ")) for row in ROWS if row.split(" ")[0] == word} for word in FIRST_WORDS}
        self.assertEqual(len(lengths), 21)
        for word in FIRST_WORDS:
            for many in range(9):
                if many + 1 not in lengths[word]:
                    self.assert_none(" ".join([word] + ["5"] * many))

    def test_numbers_not_written_so(self):
        for number in NO_NUMBERS:
            for row in ("put {} 7", "put 5 {}", "drop {}", "get {}", "page up 0 - {}", "page up {} - 5", "page up 0 {} 5",
                        "page down {} 0 5", "page down - {} 5", "page slots {} 65536 5", "page slots 0 {} 5", "free {}",
                        "at {} 5", "at 5 {}", "past {} up 0 - 5", "past 5 up {} - 5", "past 5 up 0 - {}", "copy up {} -",
                        "copy down - {}", "read {}", "follow {}", "covers {}"):
                if not (number == "-" and row in ("page up 0 {} 5", "page down {} 0 5")):
                    self.assert_none(row.replace("{}", number))

    def test_below_0(self):
        for number in ("-1", "-5", str(-FORTY)):
            for row in ("put {} 7", "drop {}", "get {}", "free {}", "at {} 5", "at 5 {}", "past {} up 0 - 5",
                        "past 5 up {} - 5", "follow {}", "covers {}", "page up {} - 5", "page up 0 - {}", "read {}",
                        "past 5 up 0 - {}", "copy up {} -"):
                self.assert_none(row.replace("{}", number))

    def test_many(self):
        for many in ("0", "101", "102", "-1", "-100", "1000", str(FORTY)):
            for row in ("page up 0 - ", "page slots 0 65536 ", "page down - 0 ", "past 5 up 0 - ", "past 5 down - 0 ", "read "):
                self.assert_none(row + many)
        for many in ("1", "2", "99", "100"):
            for row in ("page up 0 - ", "page slots 0 65536 ", "page down - 0 ", "past 5 up 0 - ", "past 5 down - 0 "):
                self.desk.say(row + many)
            self.desk.say("copy up 0 -")
            self.desk.say("open")
            self.desk.say("read " + many)

    def test_a_token_that_is_none(self):
        for token in ("up 7 5", "up - 5", "up - -", "up 0 +", "up 0 00", "down 5 7", "down 5 -", "down - -", "slots 0 65537",
                      "slots 9 8", "slots - 9", "slots 0 -", "slot 0 9", "Up 0 5", "0 up -", "up - 0", "- 0 up",
                      "up 0 " + "9" * 61, "token 0 5", "5 5 5", "- - -", "BySlots 0 9"):
            for row in ("page {} 5", "past 5 {} 5", "copy {}"):
                self.assert_none(row.replace("{}", token))

    def test_by_slots_in_past(self):
        # NoRow comes ahead of a moment that is too old or did not come yet.
        for moment in ("0", "4", "5", "6", "99"):
            for token in ("slots 0 65536", "slots 7 9", "slots 9 9"):
                self.assert_none(f"past {moment} {token} 5")

    def test_value_may_be_any(self):
        for number in ("0", "-1", "1", str(-SIXTY), str(SIXTY)):
            self.desk.say("put 5 " + number)
            self.assert_said(self.desk, "get 5", number)

    def test_no_row_ahead_of_no_copier(self):
        for row in ("open 5", "read", "read 0", "read 101", "read x", "close 1", "follow", "follow -1", "show 5", "covers",
                    "covers -1", "total 1", "stop 1", "OPEN", "open "):
            self.assert_refused(self.bare, row, NoRow)

    def test_no_copier(self):
        for row in OF_COPIER:
            self.assert_refused(self.bare, row, OutOfTurn)
        self.bare.say("put 5 7")
        for row in OF_COPIER + ("read 1", "read 100", "follow 0", "covers 0", "covers 99"):
            self.assert_refused(self.bare, row, OutOfTurn)
        self.bare.say("copy up 0 -")
        for row in ("open", "read 10", "close", "follow 5", "show", "covers 5", "total", "stop"):
            self.bare.say(row)

    def test_rows_that_need_no_copier(self):
        desk = desk_of("put 4 1", "put 5 1", "put 4 2", "hold", "hold")
        for row in ROWS:
            if row not in OF_COPIER:
                desk.say(row if row != "drop 5" else "drop 4")

    def test_refusals_of_the_house(self):
        desk = self.desk
        self.assert_said(desk, "now", "7 4")
        self.assertEqual(self.assert_refused(desk, "drop 6", NoKey).key, 6)
        self.assertEqual(self.assert_refused(desk, "get 99", NoKey).key, 99)
        self.assertEqual(self.assert_refused(desk, "at 5 3", TooOld).moment, 3)
        self.assertEqual(self.assert_refused(desk, "at 5 8", NoMoment).moment, 8)
        self.assertEqual(self.assert_refused(desk, "past 3 up 0 - 5", TooOld).moment, 3)
        self.assertEqual(self.assert_refused(desk, "past 8 down - 0 5", NoMoment).moment, 8)
        self.assertEqual(self.assert_refused(desk, "free 5", NoMoment).moment, 5)
        self.assertEqual(self.assert_refused(desk, "free 99", NoMoment).moment, 99)
        self.assertIs(type(self.assert_refused(desk, f"get {FORTY}", NoKey).key), int)

    def test_refusals_of_the_copier(self):
        for row in ("read 5", "close"):
            self.assert_refused(self.desk, row, OutOfTurn)

    def test_a_row_that_is_refused_does_nothing_and_makes_no_moment(self):
        desk = desk_of("put 5 7")
        for row in ("put 5 8 9", "put -5 8", "drop 5 5", "drop 6", "hold 1", "sweep now", "free 0"):
            with self.assertRaises(WalkError):
                desk.say(row)
        self.assert_said(desk, "keep", "5 7")
        self.assert_said(desk, "now", "1 0")
        self.assert_said(desk, "many", "1")
        self.assert_said(desk, "at 5 0", "none")

    def test_the_refusal(self):
        self.assertTrue(issubclass(NoRow, WalkError) and issubclass(NoRow, ValueError))
        self.assertFalse(issubclass(NoRow, (NoText, NoToken, OutOfTurn)))


class Changes(Case):
    """Point 3."""

    def test_lists_that_were_told_are_the_askers_own(self):
        desk = some_desk()
        ahead = state(desk)
        for row in ("get 5", "many", "page up 0 - 10", "page up 0 - 1", "now", "at 5 5", "past 5 up 0 - 10", "follow 0", "show",
                    "covers 5", "total", "keep"):
            told = desk.say(row)
            again = list(told)
            told.append("end")
            told.insert(0, "none")
            self.assertEqual(desk.say(row), again, row)
            told.clear()
            self.assertEqual(desk.say(row), again, row)
        self.assertEqual(state(desk), ahead)

    def test_empty_lists_are_the_askers_own(self):
        desk = Desk()
        for row in ("put 5 7", "put 5 7", "put 6 7", "drop 6", "copy up 0 -", "show", "open", "close", "stop"):
            if row == "close":
                desk.say("read 1")
            told = desk.say(row)
            self.assertEqual(told, [])
            told.append("end")
        self.assert_said(desk, "put 5 7")
        self.assert_said(desk, "stop")
        self.assert_said(desk, "show")
        self.assert_said(desk, "drop 5")
        self.assert_said(desk, "keep")

    def test_what_was_told_is_not_changed_by_what_is_done_later(self):
        desk = some_desk()
        told = [desk.say(row) for row in ("keep", "show", "page up 0 - 10", "now")]
        again = [list(one) for one in told]
        for row in ("put 5 1", "drop 7", "put 99 1", "hold", "sweep", "follow 9", "copy down - 0"):
            desk.say(row)
        self.assertEqual(told, again)

    def test_asked_the_same_again(self):
        desk = some_desk()
        self.assertEqual(state(desk), state(desk))

    def test_a_list_that_is_refused_is_not_changed(self):
        row = ["put", "5", "7"]
        self.assert_refused(Desk(), row, NoRow)
        self.assertEqual(row, ["put", "5", "7"])


if __name__ == "__main__":
    unittest.main()
