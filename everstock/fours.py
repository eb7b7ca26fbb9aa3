"""Stores and ways with always four numbers, and the least ones of many stores.

A house has at most four kinds. Where each store has four numbers, with noughts
for the kinds that aren't there, the comparisons are written out number by
number: they are what nearly all the time is spent on.
"""

FOUR = 4
NOTHING = (0, 0, 0, 0)


def in_four(numbers):
    """A store or a way with four numbers."""
    return numbers + (0,) * (FOUR - len(numbers))


def covers_one(store, stores):
    """True where the store covers one of the stores."""
    a, b, c, d = store
    for e, f, g, h in stores:
        if a >= e and b >= f and c >= g and d >= h:
            return True
    return False


def least_of(stores):
    """The stores that cover no other one of them, sorted, each once."""
    found = []
    # A store is sorted behind all that it covers, so those found need no second look.
    for store in sorted(set(stores)):
        if not covers_one(store, found):
            found.append(store)
    return found


def needed(way, stores):
    """For each store the least one from which the way leads to what covers it."""
    a, b, c, d = way
    return [(max(0, e - a), max(0, f - b), max(0, g - c), max(0, h - d)) for e, f, g, h in stores]


def reached_by(way, store):
    """What there is behind the way; numbers below 0 where it leads to no store."""
    a, b, c, d = way
    e, f, g, h = store
    return a + e, b + f, c + g, d + h


def joined(store, stores):
    """For each of the stores the least one that covers it and the told store."""
    a, b, c, d = store
    # Written out, this takes half the time that it takes by max.
    return [
        (a if a > e else e, b if b > f else f, c if c > g else g, d if d > h else h)
        for e, f, g, h in stores
    ]


def least_in_both(stores, others):
    """The least of all that cover one of the stores and one of the others; no store covers another one."""
    found = []
    for store in stores:
        if covers_one(store, others):
            found.append(store)
        else:
            # Most of them fall away at once, before they are many.
            found.extend(least_of(joined(store, others)))
    return least_of(found)


def least_in_all(before, needs):
    """The least of all that cover one of those before and one of each of the needs."""
    # What lasts one ask more lasts as many as before, so it covers one of those: with
    # these at the start, and the short lists ahead, few stores come up between.
    found = before
    for need in sorted(needs, key=len):
        found = least_in_both(found, need)
    return found
