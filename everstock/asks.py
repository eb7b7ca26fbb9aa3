"""How many asks a store lasts, and the least stores that last so many."""

from everstock.fours import covers_one, in_four, least_in_all, least_of, needed
from everstock.houses import kinds_of

NOTHING = (0, 0, 0, 0)


def lasts(house, store, n):
    """True where the store lasts n asks."""
    asks = asks_in_four(house)
    there = in_four(store)
    found = [NOTHING]
    for _ in range(n):
        before = found
        found = least_one_more(asks, before)
        # What doesn't last so many lasts no greater number either.
        if not covers_one(there, found):
            return False
        if found == before:
            return True
    return True


def least(house, n):
    """The least stores that last n asks, sorted."""
    asks = asks_in_four(house)
    found = [NOTHING]
    for _ in range(n):
        before = found
        found = least_one_more(asks, before)
        # Each list hangs on the one before alone: from here on all are alike.
        if found == before:
            break
    return cut(house, found)


def cut(house, stores):
    """Stores of four numbers with as many as the house has kinds."""
    kinds = kinds_of(house)
    return [store[:kinds] for store in stores]


def asks_in_four(house):
    """The asks of a house, each a list of ways of four numbers."""
    return [[in_four(way) for way in ask] for ask in house]


def least_one_more(asks, before):
    """The least stores that last one ask more than those before."""
    return least_in_all(before, [least_for_ask(ask, before) for ask in asks])


def least_for_ask(ask, before):
    """The least stores from which some way of the ask leads to what covers one of those before."""
    return least_of([store for way in ask for store in needed(way, before)])
