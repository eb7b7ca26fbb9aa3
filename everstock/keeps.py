"""Keeps, by which stores are seen to last for ever, and guides, by which asks are met for ever."""

from everstock.asks import asks_in_four
from everstock.errors import NoAsk, NoGuide
from everstock.fates import keep
from everstock.fours import covers_one, in_four, least_of, reached_by
from everstock.houses import covers, is_number_of, is_store, is_store_of, kinds_of, leads


def is_keep(house, store, thing):
    """True where the thing, anything, is a keep of the house that holds for the store."""
    if not is_store(house, store) or not isinstance(thing, list):
        return False
    if not all([is_store_of(one, kinds_of(house)) for one in thing]):
        return False
    # The others cover one of these each, and so meet each ask as that one does.
    lowest = least_of([in_four(one) for one in thing])
    asks = asks_in_four(house)
    return covers_one(in_four(store), lowest) and all([meets_all(asks, one, lowest) for one in lowest])


def is_guide(house, store, thing):
    """True where the thing, anything, is a guide of the house that holds for the store."""
    if not is_store(house, store) or not isinstance(thing, dict):
        return False
    if not all([is_asked(house, asked) for asked in thing]):
        return False
    firsts = {first: True for first, _ in thing}
    if not all([(first, i) in thing for first in firsts for i in range(len(house))]):
        return False
    if not all([is_met(house, asked, met, firsts) for asked, met in thing.items()]):
        return False
    return any([covers(store, first) for first in firsts])


def guide(house, store):
    """The guide by the keep of the store; None where the store doesn't last for ever."""
    kept = keep(house, store)
    if kept is None:
        return None
    return {(first, i): first_covering(house, i, first, kept) for first in kept for i in range(len(house))}


def guided(house, store, told, asks):
    """The numbers of the ways by which the told guide meets the asks, one behind the other."""
    if not is_guide(house, store, told):
        raise NoGuide("this is no guide that holds for the store")
    for number in asks:
        if not is_number_of(number, len(house)):
            raise NoAsk(number)
    there = min([first for first, _ in told if covers(store, first)])
    ways = []
    for i in asks:
        way, there = told[(there, i)]
        ways.append(way)
    return ways


def meets_all(asks, store, lowest):
    """True where by each ask some way leads to what covers one of the lowest."""
    return all([any([covers_one(reached_by(way, store), lowest) for way in ask]) for ask in asks])


def is_asked(house, thing):
    """True where the thing, anything, is a pair of a store and an ask's number."""
    if not isinstance(thing, tuple) or len(thing) != 2:
        return False
    return is_store_of(thing[0], kinds_of(house)) and is_number_of(thing[1], len(house))


def is_met(house, asked, thing, firsts):
    """True where the thing, anything, is a pair by which the asked pair comes to one of the firsts."""
    first, i = asked
    if not isinstance(thing, tuple) or len(thing) != 2:
        return False
    way, second = thing
    if not is_number_of(way, len(house[i])) or not is_store_of(second, kinds_of(house)):
        return False
    reached = [there for number, there in leads(house, i, first) if number == way]
    return second in firsts and any([covers(there, second) for there in reached])


def first_covering(house, i, store, kept):
    """The first way by which the ask leads to what covers one of the kept, and the first of these."""
    found = [(way, one) for way, reached in leads(house, i, store) for one in kept if covers(reached, one)]
    return found[0]
