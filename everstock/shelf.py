"""Shelves: hands kept by names."""

from everstock.errors import Full, NoHouse, NoName, NoStore, Taken
from everstock.holdings import held, with_number
from everstock.houses import is_house, is_number_of, is_store

MOST_NAMES = 8
MOST_LETTERS = 8
LETTERS = "abcdefghijklmnopqrstuvwxyz"


def is_name(thing):
    """True where the thing, anything, is a name."""
    if not isinstance(thing, str) or not 1 <= len(thing) <= MOST_LETTERS:
        return False
    return all([letter in LETTERS for letter in thing])


class Shelf:
    """Hands kept by names, what each of them holds now."""

    def __init__(self):
        self._hands = {}
        # For each deed that stands its word, and the hands ahead of it.
        self._deeds = []

    def put(self, name, house, store):
        """Puts a hand of the house and the store by a new name."""
        if not is_name(name):
            raise NoName(name)
        if name in self._hands:
            raise Taken(name)
        if len(self._hands) == MOST_NAMES:
            raise Full(MOST_NAMES)
        if not is_house(house):
            raise NoHouse("this is no house")
        if not is_store(house, store):
            raise NoStore("this is no store of the house")
        self._do("put", {**self._hands, name: held(house, store)})

    def meet(self, name, i):
        """Meets the ask i at the name, as a hand does, and tells the way's number."""
        number, behind = self._at(name).met(i)
        self._do("meet", {**self._hands, name: behind})
        return number

    def lend(self, name, kind, other, others_kind, many):
        """Lends so many of the kind from one name to another one, where what is left lasts for ever."""
        mine, its = self._two(name, kind, other, others_kind)
        there = mine.stock[kind]
        if not is_number_of(many, there + 1):
            raise NoStore("this is no number from 0, or more than is there")
        left = mine.left(with_number(mine.stock, kind, there - many))
        more = its.with_stock(with_number(its.stock, others_kind, its.stock[others_kind] + many))
        self._do("lend", {**self._hands, name: left, other: more})

    def drop(self, name):
        """Drops the name, with its hand."""
        self._at(name)
        self._do("drop", {one: hand for one, hand in self._hands.items() if one != name})

    def undo(self):
        """Undoes the last deed that stands, and tells its word; None where there is none."""
        if not self._deeds:
            return None
        word, self._hands = self._deeds.pop()
        return word

    def names(self):
        """The names, sorted."""
        return sorted(self._hands)

    def store(self, name):
        """The store at the name as it is now."""
        return self._at(name).stock

    def house(self, name):
        """The house at the name."""
        return self._at(name).rules

    def life(self, name):
        """How many asks the store at the name lasts; None where it lasts for ever."""
        return self._at(name).life()

    def lendable(self, name, kind, other, others_kind):
        """The least number that, lent, leaves both so that they last for ever; None where there is none."""
        mine, its = self._two(name, kind, other, others_kind)
        spare = mine.spare(kind)
        return None if spare is None else its.wanted(others_kind, spare)

    def __eq__(self, other):
        """True for a shelf with the same names, and equal houses and stores by them."""
        return isinstance(other, Shelf) and self._told() == other._told()

    def _told(self):
        """The houses and stores by the names."""
        return {name: (hand.rules, hand.stock) for name, hand in self._hands.items()}

    def _at(self, name):
        """What the hand at the name holds; refuses what isn't a name that is here."""
        if not is_name(name) or name not in self._hands:
            raise NoName(name)
        return self._hands[name]

    def _two(self, name, kind, other, others_kind):
        """What the hands at two names hold; refuses names, then kinds, that aren't there."""
        mine = self._at(name)
        its = self._at(other)
        if other == name:
            raise NoName(other)
        mine.check_kind(kind)
        its.check_kind(others_kind)
        return mine, its

    def _do(self, word, hands):
        """Writes down a deed and the hands ahead of it; from now on these hands are here."""
        self._deeds.append((word, self._hands))
        self._hands = hands
