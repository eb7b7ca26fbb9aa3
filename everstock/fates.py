"""Whether a store lasts for ever, and by which keep; how many asks else, and by which book."""

from everstock.plans import life_there, plan_of, time_there
from everstock.roads import book_there, keep_there


def time(house, store):
    """The least number t for which the store doesn't last t asks, or covers one of the least of the box t."""
    return time_there(plan_of(house), (0, store))


def life(house, store):
    """How many asks the store lasts; None where it lasts for ever."""
    return life_there(plan_of(house), (0, store))


def keep(house, store):
    """The least stores of the box of the store's time where it lasts for ever, else None."""
    kept = keep_there(plan_of(house), (0, store))
    return None if kept is None else kept[0]


def book(house, store):
    """The book by which the foe wears the store out; None where it lasts for ever."""
    told = book_there(plan_of(house), (0, store))
    return None if told is None else {there: pair for (_, there), pair in told.items()}
