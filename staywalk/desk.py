"""A desk that keeps a house, and perhaps a copier, and answers rows.

Each row has a function of its own, called with the desk and the things that
stand in the row, by name; it does what the row asks for and tells the answer.
"""

from staywalk.asks import ask
from staywalk.copier import Copier
from staywalk.errors import OutOfTurn
from staywalk.house import House
from staywalk.kept import row_of, rows_of
from staywalk.orders import read_order


def answer_put(desk, given):
    desk.house.put(given["KEY"], given["VALUE"])
    return []


def answer_drop(desk, given):
    desk.house.drop(given["KEY"])
    return []


def answer_get(desk, given):
    return [str(desk.house.get(given["KEY"]))]


def answer_many(desk, given):
    return [str(desk.house.many())]


def page_told(page):
    """A page, a tuple (rows, next), as texts."""
    texts = [row_of(row[0], row[1]) for row in page[0]]
    token = page[1]
    texts.append("end" if token is None else "next " + token.words())
    return texts


def answer_page(desk, given):
    return page_told(ask(desk.house, given["TOKEN"], given["MANY"]))


def answer_hold(desk, given):
    return [str(desk.house.hold())]


def answer_free(desk, given):
    desk.house.let_go(given["MOMENT"])
    return []


def answer_sweep(desk, given):
    return [str(desk.house.sweep())]


def answer_now(desk, given):
    return [str(desk.house.now) + " " + str(desk.house.floor)]


def answer_at(desk, given):
    value = desk.house.was(given["KEY"], given["MOMENT"])
    return ["none" if value is None else str(value)]


def answer_past(desk, given):
    return page_told(desk.house.page_at(given["MOMENT"], given["TOKEN"], given["MANY"]))


def answer_copy(desk, given):
    desk.copier = Copier(desk.house, given["TOKEN"])
    return []


def answer_open(desk, given):
    desk.copier.open_page()
    return []


def answer_read(desk, given):
    return [str(len(desk.copier.read_page(given["MANY"])))]


def answer_close(desk, given):
    desk.copier.close_page()
    return []


def answer_follow(desk, given):
    return [str(desk.copier.follow(given["STEPS"]))]


def answer_show(desk, given):
    copied = desk.copier.copy()
    return [row_of(key, copied[key]) for key in sorted(copied)]


def answer_covers(desk, given):
    return ["yes" if desk.copier.covers(given["KEY"]) else "no"]


def answer_total(desk, given):
    return [str(desk.copier.total())]


def answer_stop(desk, given):
    copier = desk.copier
    desk.copier = Copier(desk.house, copier.first, copier.stopped())
    return []


def answer_keep(desk, given):
    return rows_of(desk.house)


ANSWERS = {
    "put": answer_put,
    "drop": answer_drop,
    "get": answer_get,
    "many": answer_many,
    "page": answer_page,
    "hold": answer_hold,
    "free": answer_free,
    "sweep": answer_sweep,
    "now": answer_now,
    "at": answer_at,
    "past": answer_past,
    "copy": answer_copy,
    "open": answer_open,
    "read": answer_read,
    "close": answer_close,
    "follow": answer_follow,
    "show": answer_show,
    "covers": answer_covers,
    "total": answer_total,
    "stop": answer_stop,
    "keep": answer_keep,
}
OF_COPIER = ("open", "read", "close", "follow", "show", "covers", "total", "stop")


class Desk:
    """Keeps one house, and perhaps one copier."""

    def __init__(self):
        self.house = House()
        self.copier = None

    def say(self, row):
        """Do what the row asks for, and tell the answer, a list of texts."""
        order = read_order(row)
        first = order[0]
        if first in OF_COPIER and self.copier is None:
            raise OutOfTurn("the desk has no copier")
        answer = ANSWERS[first]
        return answer(self, order[1])
