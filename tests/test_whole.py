"""Points 4, 23, 30 and 35 by rows alone, as points 39 to 42 tell them: whole walks and copies at a desk."""

import random
import unittest

import plain
from plain import FORTY
from staywalk.desk import Desk
from staywalk.errors import NoKey, NoMoment, OutOfTurn, TooOld, WalkError
from staywalk.slots import Slots
from staywalk.tokens import BySlots, Down, Up

KINDS = {"slots": BySlots, "up": Up, "down": Down}
FIRST = ("slots 0 65536", "up 0 -", "down - 0")

# Keys of all sorts to put and drop, by name.
KEYS = {
    "few": range(9),
    "close": range(60),
    "wide": [j * j * 7919 for j in range(90)],
    "one place": [6 + 65536 * j for j in range(12)] + [2, 10, 14],
    "two slots": list(range(0, 9000, 256)) + list(range(1, 9000, 256)),
    "forty figures": [FORTY - j * 10 ** 37 for j in range(40)],
}


def token_of(words):
    """The token that these words tell."""
    kind, at, end = words.split(" ")
    return KINDS[kind](*[None if word == "-" else int(word) for word in (at, end)])


def row_of(key, value):
    return f"{key} {value}"


class Book:
    """Answers rows as the document tells, from what was done so far: no deed is followed but all is looked up."""

    def __init__(self):
        self.tables = [{}]
        self.slots = Slots()
        self.diary = []
        self.held = []
        self.floor = 0
        # Of the copier: the first token, what is left, the place; of its page: the next token, the closing mark's place.
        self.copier = None
        self.page = None

    def now(self):
        return len(self.tables) - 1

    def table(self):
        return self.tables[-1]

    def say(self, row):
        """The answer, or the error with which the row is refused and its field."""
        words = row.split(" ")
        if words[0] in ("open", "read", "close", "follow", "show", "covers", "total", "stop") and self.copier is None:
            return (OutOfTurn, None)
        return getattr(self, "say_" + words[0])(*words[1:])

    def deed(self, table, row):
        self.tables.append(table)
        self.diary.append(row)
        return []

    def say_put(self, key, value):
        key, value = int(key), int(value)
        self.slots.put(key, value)
        return self.deed({**self.table(), key: value}, ("put", key, value))

    def say_drop(self, key):
        key = int(key)
        if key not in self.table():
            return (NoKey, key)
        self.slots.drop(key)
        return self.deed({one: value for one, value in self.table().items() if one != key}, ("drop", key))

    def say_get(self, key):
        key = int(key)
        return [str(self.table()[key])] if key in self.table() else (NoKey, key)

    def say_many(self):
        return [str(len(self.table()))]

    def told(self, table, words, many):
        rows, ahead = plain.page(table, self.slots.rows(), token_of(words), int(many))
        return [row_of(*row) for row in rows] + ["end" if ahead is None else "next " + ahead]

    def say_page(self, kind, at, end, many):
        return self.told(self.table(), f"{kind} {at} {end}", many)

    def say_hold(self):
        self.held.append(self.now())
        return [str(self.now())]

    def say_free(self, moment):
        moment = int(moment)
        if moment not in self.held:
            return (NoMoment, moment)
        self.held.remove(moment)
        return []

    def needed(self, key):
        """How many makes of a key are there: of the floor's value, and of each deed behind it."""
        rows = [row for row in self.diary if row[0] != "mark"]
        return (key in self.tables[self.floor]) + len([row for row in rows[self.floor:] if row[1] == key])

    def say_sweep(self):
        keys = {row[1] for row in self.diary if row[0] != "mark"}
        ahead = sum(self.needed(key) for key in keys)
        self.floor = min(self.held, default=self.now())
        return [str(ahead - sum(self.needed(key) for key in keys))]

    def say_now(self):
        return [f"{self.now()} {self.floor}"]

    def outside(self, moment):
        if moment < self.floor:
            return (TooOld, moment)
        return (NoMoment, moment) if moment > self.now() else None

    def say_at(self, key, moment):
        return self.outside(int(moment)) or [str(self.tables[int(moment)].get(int(key), "none"))]

    def say_past(self, moment, kind, at, end, many):
        return self.outside(int(moment)) or self.told(self.tables[int(moment)], f"{kind} {at} {end}", many)

    def say_copy(self, kind, at, end):
        first = token_of(f"{kind} {at} {end}")
        self.copier = {"first": first, "left": first, "place": len(self.diary)}
        self.page = None
        return []

    def say_open(self):
        if self.page is not None or self.copier["left"] is None:
            return (OutOfTurn, None)
        self.page = {}
        self.diary.append(("mark",))
        return []

    def say_read(self, many):
        if self.page is None or "next" in self.page:
            return (OutOfTurn, None)
        rows, ahead = plain.page(self.table(), self.slots.rows(), self.copier["left"], int(many))
        self.page["next"] = None if ahead is None else token_of(ahead)
        return [str(len(rows))]

    def say_close(self):
        if self.page is None or "next" not in self.page or "mark" in self.page:
            return (OutOfTurn, None)
        self.page["mark"] = len(self.diary)
        self.diary.append(("mark",))
        return []

    def say_follow(self, steps):
        place = min(self.copier["place"] + int(steps), len(self.diary))
        self.copier["place"] = place
        if self.page is not None and self.page.get("mark", place) < place:
            self.copier["left"] = self.page["next"]
            self.page = None
        return [str(place)]

    def covered(self, key):
        return plain.holds(self.copier["first"], key) and not plain.holds(self.copier["left"], key)

    def copied(self):
        table = plain.behind(self.diary[:self.copier["place"]])
        return {key: value for key, value in table.items() if self.covered(key)}

    def say_show(self):
        return [row_of(key, value) for key, value in sorted(self.copied().items())]

    def say_covers(self, key):
        return ["yes" if self.covered(int(key)) else "no"]

    def say_total(self):
        return [str(sum(self.copied().values()))]

    def say_stop(self):
        self.page = None
        return []

    def say_keep(self):
        return [row_of(key, value) for key, value in sorted(self.table().items())]


class Watched:
    """A desk, each of whose answers is held against the book."""

    def __init__(self, case, name):
        self.case = case
        self.name = name
        self.desk = Desk()
        self.book = Book()

    def say(self, row):
        """The answer, or None where the row was refused."""
        expected = self.book.say(row)
        try:
            answer = self.desk.say(row)
        except WalkError as error:
            field = getattr(error, "key", getattr(error, "moment", None))
            self.case.assertEqual((type(error), field), expected, (self.name, row))
            return None
        self.case.assertEqual(answer, expected, (self.name, row))
        return answer

    def deed(self, chance, keys):
        """A put or a drop; told is the key dropped, or None."""
        key = chance.choice(keys)
        if key in self.book.table() and chance.random() < 0.6:
            self.say(f"drop {key}")
            return key
        self.say(f"put {key} {chance.randrange(-99, 100)}")
        return None


def any_row(chance, keys, watched):
    """A row of any form, such as somebody at the desk may say."""
    key = chance.choice(keys)
    moment = chance.randrange(watched.book.now() + 3)
    many = chance.choice((1, 2, 3, 10, 100))
    words = any_token(chance, keys)
    while words.startswith("slots"):
        words = any_token(chance, keys)
    return chance.choice((
        f"get {key}", "many", f"page {any_token(chance, keys)} {many}", "hold", f"free {moment}", "sweep", "now",
        f"at {key} {moment}", f"past {moment} {words} {many}", f"drop {key}", "keep", "total", "show", f"covers {key}",
    ))


def any_token(chance, keys):
    kind = chance.choice(list(KINDS))
    top = 65536 if kind == "slots" else max(keys) + 2
    low, high = sorted(chance.randrange(top + 1) for again in range(2))
    if kind == "slots":
        return chance.choice((f"slots {low} {high}", "slots 0 65536"))
    if kind == "up":
        return chance.choice((f"up {low} {high}", f"up {low} -", "up 0 -"))
    return chance.choice((f"down {high} {low}", f"down - {low}", "down - 0"))


class Case(unittest.TestCase):

    def filled(self, chance, name):
        watched = Watched(self, name)
        keys = KEYS[name]
        for key in chance.sample(list(keys), len(keys) * 2 // 3):
            watched.say(f"put {key} {chance.randrange(-99, 100)}")
        return watched

    def sessions(self, seed):
        """A desk with keys, and what chance it has, for each sort of keys."""
        for name, keys in KEYS.items():
            chance = random.Random(f"{seed} {name}")
            yield (chance, list(keys), self.filled(chance, name))


class Walks(Case):

    def walk(self, watched, words, many, between):
        """A walk to its end, with deeds between its pages: between() tells the keys dropped then."""
        first = token_of(words)
        stayed = {key for key in watched.book.table() if plain.holds(first, key)}
        told = []
        sizes = []
        asks = 0
        while words is not None:
            token = token_of(words)
            kept = watched.book.table()
            sizes.append(min(watched.book.slots.rows()))
            answer = watched.say(f"page {words} {many}")
            asks += 1
            rows = [tuple(int(word) for word in text.split(" ")) for text in answer[:-1]]
            words = answer[-1][5:] if answer[-1] != "end" else None
            ahead = None if words is None else token_of(words)
            self.assertEqual(dict(rows), {key: kept[key] for key in kept if plain.holds(token, key) and not plain.holds(ahead, key)})
            self.assertTrue(ahead is None or (type(ahead) is type(first) and ahead.end == first.end))
            told += [key for key, value in rows]
            if words is not None:
                stayed -= set(between())
        self.assertEqual(len(told), len(set(told)))
        self.assertLessEqual(stayed, set(told))
        self.assertEqual(told, plain.in_order(first, told))
        if isinstance(first, BySlots):
            self.assertLessEqual(asks, max(sizes))

    def test_nothing_done_between(self):
        for chance, keys, watched in self.sessions(1):
            for words in FIRST + tuple(any_token(chance, keys) for again in range(9)):
                for many in (1, 3, 10, 100):
                    self.walk(watched, words, many, lambda: [])

    def test_puts_and_drops_between(self):
        for chance, keys, watched in self.sessions(2):
            for words in FIRST + tuple(any_token(chance, keys) for again in range(9)):
                for many in (1, 2, 5):
                    self.walk(watched, words, many, lambda: [watched.deed(chance, keys) for again in range(chance.randrange(4))])

    def test_growing_and_shrinking_between(self):
        for chance, keys, watched in self.sessions(3):
            for words in FIRST * 2:
                going = []

                def between():
                    if not going:
                        table = watched.book.table()
                        rows = [f"drop {key}" for key in table] if len(table) > len(keys) // 2 else [f"put {key} 1" for key in keys]
                        going.extend(chance.sample(rows, len(rows)))
                    some = [going.pop() for again in range(min(4, len(going)))]
                    for row in some:
                        watched.say(row)
                    return [int(row.split(" ")[1]) for row in some if row.startswith("drop")]

                self.walk(watched, words, 1, between)

    def test_walks_through_a_moment_that_is_held(self):
        for chance, keys, watched in self.sessions(4):
            for words in FIRST[1:] * 2:
                moment = watched.say("hold")[0]
                then = watched.book.table()
                told = []
                while words is not None:
                    answer = watched.say(f"past {moment} {words} {chance.choice((1, 3, 7))}")
                    told += answer[:-1]
                    words = answer[-1][5:] if answer[-1] != "end" else None
                    watched.deed(chance, keys)
                    watched.say(chance.choice(("sweep", "now", f"at {chance.choice(keys)} {moment}")))
                self.assertEqual(sorted(told), sorted(row_of(*row) for row in then.items()))
                watched.say(f"free {moment}")


class Copies(Case):

    def step(self, chance, keys, watched):
        """A step of a copier, in its turn or not, or whatever else is said at a desk."""
        way = chance.random()
        if way < 0.35:
            watched.deed(chance, keys)
        elif way < 0.55:
            watched.say(f"follow {chance.choice((0, 1, 2, 5, 20))}")
        elif way < 0.85:
            watched.say(chance.choice(("open", f"read {chance.choice((1, 2, 5))}", "close")))
        else:
            watched.say(any_row(chance, keys, watched))

    def finish(self, watched, many):
        """Copy all that is left; the copy is then the house, of the keys that the first token holds."""
        watched.say("stop")
        while watched.say("open") is not None:
            watched.say(f"read {many}")
            watched.say("close")
            watched.say("follow 3000")
        watched.say("follow 3000")
        first = watched.book.copier["first"]
        table = {key: value for key, value in watched.book.table().items() if plain.holds(first, key)}
        self.assertEqual(watched.say("show"), [row_of(key, table[key]) for key in sorted(table)])
        self.assertEqual(watched.say("total"), [str(sum(table.values()))])

    def covered(self, watched, keys):
        return {key for key in keys if watched.say(f"covers {key}") == ["yes"]}

    def test_step_by_step(self):
        for chance, keys, watched in self.sessions(5):
            for words in FIRST + tuple(any_token(chance, keys) for again in range(3)):
                watched.say("copy " + words)
                covered = set()
                for again in range(50):
                    self.step(chance, keys, watched)
                    watched.say("show")
                    now = self.covered(watched, keys[::5])
                    self.assertLessEqual(covered, now)
                    covered = now
                    if chance.random() < 0.03:
                        watched.say("stop")
                self.finish(watched, chance.choice((1, 3, 10)))
                self.assertEqual(self.covered(watched, keys), {key for key in keys if plain.holds(token_of(words), key)})

    def test_a_new_copy_in_the_place_of_another(self):
        for chance, keys, watched in self.sessions(6):
            for again in range(12):
                watched.say("copy " + any_token(chance, keys))
                for step in range(chance.randrange(12)):
                    self.step(chance, keys, watched)
                    watched.say("show")
                    watched.say("total")
            self.finish(watched, 5)

    def test_stopped_between_any_two_steps(self):
        for words in FIRST:
            for at in range(12):
                chance = random.Random(f"7 {words} {at}")
                keys = list(KEYS["close"])
                watched = self.filled(chance, "close")
                watched.say("copy " + words)
                for step in range(12):
                    watched.say(("open", "follow 1", "read 3", "follow 1", "close", "follow 2")[step % 6])
                    watched.deed(chance, keys)
                    if step == at:
                        watched.say("stop")
                    watched.say("show")
                self.finish(watched, 3)

    def test_copies_by_parts_put_together(self):
        chance = random.Random(8)
        keys = list(KEYS["wide"])
        desks = [Watched(self, number) for number in range(4)]
        for key in keys[:60]:
            for watched in desks:
                watched.say(f"put {key} {key % 97}")
        ends = (0, 9000, 9001, 40000, 65536)
        for number, watched in enumerate(desks):
            watched.say(f"copy slots {ends[number]} {ends[number + 1]}")
        # The same deeds at all desks, while each of them copies a part of its own.
        for again in range(40):
            row = chance.choice((f"put {chance.choice(keys)} {again}", f"drop {chance.choice(keys)}"))
            for watched in desks:
                watched.say(row)
                watched.say(chance.choice(("open", "read 2", "close", "follow 3")))
        together = []
        for watched in desks:
            self.finish(watched, 4)
            together += watched.say("show")
        self.assertEqual(sorted(together), sorted(desks[0].say("keep")))


class Sessions(Case):

    def test_rows_of_all_sorts(self):
        for chance, keys, watched in self.sessions(9):
            copies = ["copy " + words for words in FIRST]
            for again in range(400):
                way = chance.random()
                if way < 0.4:
                    watched.deed(chance, keys)
                elif way < 0.7:
                    watched.say(any_row(chance, keys, watched))
                elif way < 0.72:
                    watched.say(chance.choice(copies + ["stop"]))
                else:
                    watched.say(chance.choice(("open", "read 1", "read 20", "close", "follow 1", "follow 9", "show", "total")))
            watched.say("keep")
            self.assertEqual(watched.say("now"), [f"{watched.book.now()} {watched.book.floor}"])

    def test_four_hundred_keys_and_two_thousand_rows(self):
        chance = random.Random(10)
        keys = list(range(3, 1203, 3))
        watched = Watched(self, "great")
        for key in keys:
            watched.say(f"put {key} {key * 2}")
        watched.say("copy slots 0 65536")
        for again in range(380):
            for row in ("open", "read 1", "close", "follow 2"):
                watched.say(row)
            watched.deed(chance, keys)
            if again % 60 == 0:
                for row in ("hold", "sweep", "show", "page slots 0 65536 100", f"past {watched.book.now()} down - 0 100"):
                    watched.say(row)
        self.assertLess(len(watched.book.diary), 2001)
        watched.say("follow 2000")
        watched.say("show")
        watched.say("keep")


if __name__ == "__main__":
    unittest.main()
