"""Hands: a house and a store of it, by which asks are met."""

from everstock.errors import NoAsk, NoHouse, NoStore
from everstock.holdings import held
from everstock.houses import covers, is_house, is_number_of, is_store, put_together


class Hand:
    """A store that asks are met from, by a house that may change."""

    def __init__(self, house, store):
        self._now = held(house, store)
        self._met = []
        # For each deed that stands its word, and what was held ahead of it.
        self._deeds = []

    def meet(self, i):
        """Meets the ask i by the first way that leads to the longest life, and tells its number."""
        number, behind = self._now.met(i)
        self._do("meet", behind)
        self._met.append((i, number))
        return number

    def bring(self, store):
        """Brings a store to the hand's own."""
        if not is_store(self._now.rules, store):
            raise NoStore("this is no store")
        self._do("bring", self._now.with_stock(put_together(self._now.stock, store)))

    def take(self, store):
        """Takes a store from the hand's own, where what is left lasts for ever."""
        if not is_store(self._now.rules, store) or not covers(self._now.stock, store):
            raise NoStore("this is no store, or more than is there")
        left = tuple([mine - its for mine, its in zip(self._now.stock, store)])
        self._do("take", self._now.left(left))

    def add(self, ask):
        """Adds an ask behind the others."""
        house = self._now.rules
        if not is_house(house + (ask,)):
            raise NoHouse("this is no ask of these kinds, or one too many")
        self._do("add", held(house + (ask,), self._now.stock))

    def drop(self, i):
        """Drops the ask i."""
        house = self._now.rules
        if not is_number_of(i, len(house)) or len(house) == 1:
            raise NoAsk(i)
        self._do("drop", held(house[:i] + house[i + 1:], self._now.stock))

    def undo(self):
        """Undoes the last deed that stands, and tells its word; None where there is none."""
        if not self._deeds:
            return None
        word, self._now = self._deeds.pop()
        if word == "meet":
            self._met.pop()
        return word

    def store(self):
        """The store as it is now."""
        return self._now.stock

    def house(self):
        """The house as it is now."""
        return self._now.rules

    def life(self):
        """How many asks the store lasts; None where it lasts for ever."""
        return self._now.life()

    def met(self):
        """The pairs (ask, way) that the hand met, numbered as they were then, without what is undone."""
        return list(self._met)

    def spare(self, kind):
        """How many of the kind can be taken so that what is left lasts for ever; None where the store doesn't."""
        self._now.check_kind(kind)
        return self._now.spare(kind)

    def fork(self):
        """Another hand that stands as this one does, with the same deeds to undo."""
        other = Hand(self._now.rules, self._now.stock)
        other._now = self._now
        other._met = list(self._met)
        other._deeds = list(self._deeds)
        return other

    def _do(self, word, behind):
        """Writes down a deed and what was held ahead of it; from now on what is behind it is held."""
        self._deeds.append((word, self._now))
        self._now = behind
