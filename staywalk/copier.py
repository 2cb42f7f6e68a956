"""A copy of a house, made by the pages of a walk while the house goes on being changed."""

from staywalk.asks import ask
from staywalk.errors import OutOfTurn


def is_left(token, key):
    """Whether the key is held by what is left, a token or None."""
    return token is not None and token.holds(key)


def change(table, row):
    """Do a change of the diary, a put or a drop, to a table."""
    if row[0] == "put":
        table[row[1]] = row[2]
    else:
        table.pop(row[1], None)


class Page:
    """A page on its way into the copy."""

    def __init__(self, token):
        self.asked = token
        # The rows that were read; None as long as none were.
        self.found = None
        self.ahead = None
        # The last change of each key of the piece that was followed.
        self.noted = {}
        # The number of the closing mark; None as long as the page was not closed.
        self.closing = None

    def read(self, house, many):
        """Read the page."""
        answer = ask(house, self.asked, many)
        self.found = answer[0]
        self.ahead = answer[1]

    def in_piece(self, key):
        """Whether the page was read and the key is of its piece."""
        return self.found is not None and self.asked.holds(key) and not is_left(self.ahead, key)

    def outcome(self):
        """The keys and values of the piece at the closing mark."""
        # A change that the page shows already does no harm: the last one of each key was done ahead of the mark.
        table = dict(self.found)
        for row in self.noted.values():
            change(table, row)
        return table


class Copier:
    """Makes a copy of the keys of a house that the first token holds."""

    def __init__(self, house, token, stopped=None):
        if stopped is None:
            stopped = (token, len(house.diary()), {})
        self.house = house
        self.first = token
        self.rest = stopped[0]
        self.followed = stopped[1]
        self.copied = dict(stopped[2])
        # The page on its way, from its opening on until its closing mark was followed.
        self.page = None

    def open_page(self):
        """Begin a page, and tell the number of its first mark."""
        if self.page is not None:
            raise OutOfTurn("the page ahead was not copied yet")
        if self.rest is None:
            raise OutOfTurn("nothing is left")
        self.page = Page(self.rest)
        return self.house.lay_mark()

    def read_page(self, many=10):
        """Read the page that was opened, and tell its rows."""
        page = self.page
        if page is None or page.found is not None:
            raise OutOfTurn("no page waits for being read")
        page.read(self.house, many)
        return list(page.found)

    def close_page(self):
        """Close the page that was read, and tell the number of its closing mark."""
        page = self.page
        if page is None or page.found is None or page.closing is not None:
            raise OutOfTurn("no page waits for being closed")
        page.closing = self.house.lay_mark()
        return page.closing

    def follow(self, steps):
        """Go on over so many rows of the diary, or as many as there are, and tell the place then."""
        rows = self.house.diary(self.followed)[:max(steps, 0)]
        for row in rows:
            if row[0] == "mark":
                self.follow_mark(row[1])
            else:
                self.follow_change(row)
            self.followed += 1
        return self.followed

    def follow_mark(self, number):
        """Copy the page at its closing mark; any other mark is passed over."""
        page = self.page
        if page is None or page.closing != number:
            return
        self.copied.update(page.outcome())
        self.rest = page.ahead
        self.page = None

    def follow_change(self, row):
        """Do a change to the copy, or note it for the page on its way, or pass it over."""
        key = row[1]
        page = self.page
        if self.covers(key):
            change(self.copied, row)
        elif page is not None and page.in_piece(key):
            page.noted[key] = row

    def copy(self):
        """The keys copied and their values."""
        return dict(self.copied)

    def covers(self, key):
        """Whether the key is covered."""
        return self.first.holds(key) and not is_left(self.rest, key)

    def place(self):
        """How many rows of the diary were followed."""
        return self.followed

    def left(self):
        """What is left to be copied, a token or None."""
        return self.rest

    def total(self):
        """The sum of the values in the copy."""
        return sum(self.copied.values())

    def stopped(self):
        """What another copier goes on from: a tuple (left, place, copy)."""
        return (self.rest, self.followed, dict(self.copied))
