"""Whether a store lasts for ever, and by which keep; how many asks else, and by which book."""

from everstock.asks import NOTHING, asks_in_four, least_one_more
from everstock.boxes import least_within
from everstock.fours import covers_one, in_four
from everstock.houses import leads


def time(house, store):
    """The least number t for which the store doesn't last t asks, or covers one of the least of the box t."""
    lists, _ = fate(house, store)
    return len(lists) - 1


def life(house, store):
    """How many asks the store lasts; None where it lasts for ever."""
    lists, kept = fate(house, store)
    return life_by(lists, store) if kept is None else None


def keep(house, store):
    """The least stores of the box of the store's time where it lasts for ever, else None."""
    _, kept = fate(house, store)
    return kept


def book(house, store):
    """The book by which the foe wears the store out; None where it lasts for ever."""
    lists, kept = fate(house, store)
    if kept is not None:
        return None
    found = {}
    todo = [store]
    while todo:
        there = todo.pop()
        if there not in found:
            lived = life_by(lists, there)
            i = first_wearing(house, there, lists[lived])
            found[there] = (lived + 1, i)
            todo.extend([reached for _, reached in leads(house, i, there)])
    return found


def fate(house, store):
    """The least stores, in four, that last each number of asks up to the store's time; and its keep or None."""
    asks = asks_in_four(house)
    there = in_four(store)
    lists = [[NOTHING]]
    while covers_one(there, lists[-1]):
        kept = least_within(house, len(lists) - 1)
        if covers_one(there, [in_four(one) for one in kept]):
            return lists, kept
        lists.append(least_one_more(asks, lists[-1]))
    return lists, None


def life_by(lists, store):
    """How many asks the store lasts, which doesn't last as many as the last of the lists has."""
    there = in_four(store)
    lived = 0
    while covers_one(there, lists[lived + 1]):
        lived += 1
    return lived


def first_wearing(house, store, lasting):
    """The number of the first ask by which no way leads from the store to what covers one of those lasting."""
    for i in range(len(house)):
        if not any([covers_one(in_four(reached), lasting) for _, reached in leads(house, i, store)]):
            return i
