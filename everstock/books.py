"""Books, by which a foe wears a store out, looked over and played."""

from everstock.errors import NoBook
from everstock.houses import is_store, is_store_of, kinds_of
from everstock.plans import plan_of
from everstock.roads import is_book_there, played_there


def is_book(house, store, thing):
    """True where the thing, anything, is a book of the house that holds for the store."""
    if not is_store(house, store) or not isinstance(thing, dict):
        return False
    if not all([is_store_of(there, kinds_of(house)) for there in thing]):
        return False
    return is_book_there(plan_of(house), (0, store), in_room(thing))


def played(house, store, told, answer):
    """The asks, the answers that led on, and how it ended, where the told book is played against anybody."""
    if not is_book(house, store, told):
        raise NoBook("this is no book that holds for the store")
    return played_there(plan_of(house), (0, store), in_room(told), lambda room, i, there: answer(i, there))


def in_room(told):
    """The dict from stores as one from stands, in the only room of a plan."""
    return {(0, there): pair for there, pair in told.items()}
