"""Houses and their stores: kinds, ways, asks, and where a way leads."""

MOST_KINDS = 4
MOST_WAYS = 5
MOST_ASKS = 8
MOST_IN_A_WAY = 99


def is_whole(thing):
    """True for a whole number: an int that is no truth."""
    return isinstance(thing, int) and not isinstance(thing, bool)


def is_tuple_of(thing, most):
    """True for a tuple of one thing to so many."""
    return isinstance(thing, tuple) and 1 <= len(thing) <= most


def is_way(thing):
    """True for a way, of whatever number of kinds."""
    if not is_tuple_of(thing, MOST_KINDS):
        return False
    return all([is_whole(number) and abs(number) <= MOST_IN_A_WAY for number in thing])


def is_ask(thing):
    """True for an ask; its ways may still be of unlike lengths."""
    return is_tuple_of(thing, MOST_WAYS) and all([is_way(way) for way in thing])


def is_pair(thing):
    """True for a tuple of two."""
    return isinstance(thing, tuple) and len(thing) == 2


def is_house(thing):
    """True where the thing, anything, is a house."""
    if not is_tuple_of(thing, MOST_ASKS) or not all([is_ask(ask) for ask in thing]):
        return False
    kinds = kinds_of(thing)
    return all([len(way) == kinds for ask in thing for way in ask])


def kinds_of(house):
    """How many kinds a house has."""
    return len(house[0][0])


def is_store(house, thing):
    """True where the thing, anything, is a store of the house."""
    return is_house(house) and is_store_of(thing, kinds_of(house))


def is_store_of(thing, kinds):
    """True where the thing, anything, is a store of so many kinds."""
    if not isinstance(thing, tuple) or len(thing) != kinds:
        return False
    return all([is_whole(number) and number >= 0 for number in thing])


def is_number_of(thing, many):
    """True where the thing, anything, is the number of one of so many, from 0 on."""
    return is_whole(thing) and 0 <= thing < many


def leads(house, i, store):
    """The pairs (way's number, store to which it leads) of the ask i, by number."""
    found = [(number, put_together(store, way)) for number, way in enumerate(house[i])]
    return [(number, reached) for number, reached in found if min(reached) >= 0]


def put_together(numbers, others):
    """The numbers of both, kind by kind, added."""
    return tuple([one + other for one, other in zip(numbers, others)])


def covers(store, other):
    """True where the store has at least as many of each kind as the other one."""
    return all([mine >= its for mine, its in zip(store, other)])
