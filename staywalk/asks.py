"""Asking a house for the pages of a walk, and parting a walk.

All that is left of a walk stands in its token: the house keeps nothing of it.
"""

from staywalk.errors import NoPart
from staywalk.tokens import BySlots, Down, Up

STRETCHES_A_KEY = 4


def ask(house, token, many=10, sieve=None):
    """The page that comes next by the token, a list of tuples (key, value), and the next token or None."""
    if isinstance(token, BySlots):
        page = page_by_slots(house.slots, token, many)
    else:
        page = page_by_keys(house, token, many)
    if sieve is None:
        return page
    # Asked of the whole page at last, so that it bears on nothing but what is told.
    return ([row for row in page[0] if sieve(row[0], row[1])], page[1])


def page_by_slots(slots, token, many):
    """The page of a walk by slots, and the next token or None."""
    rows = []
    reached = token.at
    gone = 0
    while reached < token.end:
        # The last stretch may end behind the token's end.
        stop = min(slots.stop(reached), token.end)
        rows.extend(slots.span(reached, stop))
        reached = stop
        gone += 1
        if len(rows) >= many or gone >= STRETCHES_A_KEY * many:
            break
    if reached == token.end:
        return (rows, None)
    return (rows, BySlots(reached, token.end))


def page_by_keys(house, token, many):
    """The page of a walk up or down, and the next token or None."""
    page = keys_of_page(house.leaves, token, many)
    return ([(key, house.get(key)) for key in page[0]], page[1])


def keys_of_page(leaves, token, many):
    """Of the keys in the leaves those of the page of a walk up or down, and the next token or None."""
    most = max(many, 0)
    # One key more than the page may have shows whether more are held.
    held = [key for key in keys_near(leaves, token, most + 1) if token.holds(key)]
    page = held[:most]
    if len(held) == len(page):
        return (page, None)
    if len(page) == 0:
        return (page, token)
    return (page, token_behind(token, page[-1]))


def keys_near(leaves, token, most):
    """The first keys, at most so many, on the way that a walk up or down goes, held or not."""
    if isinstance(token, Up):
        return leaves.from_on(token.at, most)
    return leaves.down_from(token.at, most)


def token_behind(token, key):
    """The token, up or down, of what is left behind the key."""
    if isinstance(token, Up):
        return Up(key + 1, token.end)
    return Down(key - 1, token.end)


def parts(token, many):
    """So many tokens, each key that the token holds being held by just one of them."""
    if isinstance(token, BySlots):
        return [BySlots(bound(token, j, many), bound(token, j + 1, many)) for j in range(many)]
    if isinstance(token, Up) and token.end is not None:
        return [Up(bound(token, j, many), bound(token, j + 1, many)) for j in range(many)]
    raise NoPart("only a token by slots, and one up with an end, can be parted")


def bound(token, j, many):
    """Where the j-th of so many parts begins, and the one ahead of it ends."""
    return token.at + (token.end - token.at) * j // many
