"""Keeps, by which stores are seen to last for ever, and guides, by which asks are met for ever."""

from everstock.errors import NoGuide
from everstock.houses import is_number_of, is_pair, is_store, is_store_of, kinds_of
from everstock.plans import plan_of
from everstock.roads import guide_there, guided_there, is_guide_there, is_keep_there


def is_keep(house, store, thing):
    """True where the thing, anything, is a keep of the house that holds for the store."""
    return is_store(house, store) and is_keep_there(plan_of(house), (0, store), [thing])


def is_guide(house, store, thing):
    """True where the thing, anything, is a guide of the house that holds for the store."""
    if not is_store(house, store) or not isinstance(thing, dict):
        return False
    if not all([is_asked(house, asked) for asked in thing]):
        return False
    return is_guide_there(plan_of(house), (0, store), in_room(thing))


def guide(house, store):
    """The guide by the keep of the store; None where the store doesn't last for ever."""
    told = guide_there(plan_of(house), (0, store))
    return None if told is None else {(first, i): met for (_, first, i), met in told.items()}


def guided(house, store, told, asks):
    """The numbers of the ways by which the told guide meets the asks, one behind the other."""
    if not is_guide(house, store, told):
        raise NoGuide("this is no guide that holds for the store")
    return guided_there(plan_of(house), (0, store), in_room(told), asks)


def is_asked(house, thing):
    """True where the thing, anything, is a pair of a store and an ask's number."""
    return is_pair(thing) and is_store_of(thing[0], kinds_of(house)) and is_number_of(thing[1], len(house))


def in_room(told):
    """The dict from pairs (store, ask's number) as one from triples, in the only room of a plan."""
    return {(0, first, i): met for (first, i), met in told.items()}
