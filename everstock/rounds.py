"""Rounds, by which an ask is met over and over, and wears, by which it wears out every store, however great."""

from itertools import combinations
from math import gcd

from everstock.errors import NoAsk, NoRound, NoStore
from everstock.houses import covers, is_house, is_number_of, is_store, is_store_of, kinds_of, put_together


def is_round(ask, thing):
    """True where the thing, anything, is a round of the ask."""
    if not is_house((ask,)) or not is_store_of(thing, len(ask)) or max(thing) == 0:
        return False
    return min(all_taken(ask, thing)) >= 0


def is_wear(ask, thing):
    """True where the thing, anything, is a wear of the ask."""
    if not is_house((ask,)) or not is_store_of(thing, len(ask[0])):
        return False
    return all([weighed(way, thing) <= -1 for way in ask])


def all_taken(ask, told):
    """What all comes to, kind by kind, where each way is taken so many times."""
    return [sum([change * many for change, many in zip(changes, told)]) for changes in zip(*ask)]


def weighed(way, weights):
    """What the way's numbers come to, each taken by its kind's weight."""
    return sum([change * weight for change, weight in zip(way, weights)])


def round_or_wear(ask):
    """A pair of "round" and a round of the ask, or of "wear" and a wear of it."""
    found = round_of(ask)
    return ("wear", wear_of(ask)) if found is None else ("round", found)


def round_of(ask):
    """A round of the ask, of as few ways as may be; None where it has none."""
    # Where there is a round there is one at a corner: as many kinds come to just 0 as
    # there are ways in it but one, and these settle it, but for how often all is done.
    for fewer in range(len(ask)):
        for ways in combinations(range(len(ask)), fewer + 1):
            for kinds in combinations(range(len(ask[0])), fewer):
                rows = [[ask[way][kind] for way in ways] for kind in kinds]
                told = spread(balance(rows, fewer + 1), ways, len(ask))
                if is_round(ask, told):
                    return told
    return None


def balance(rows, many):
    """Numbers by which each of the rows, one fewer than there are numbers, comes to 0; noughts where many would do."""
    found = []
    sign = 1
    for at in range(many):
        found.append(sign * determinant([row[:at] + row[at + 1:] for row in rows]))
        sign = -sign
    return found if sum(found) > 0 else [-number for number in found]


def wear_of(ask):
    """A wear of the ask, of as few kinds as may be; None where it has none."""
    # A corner again: as many ways as there are kinds in it come to just as much.
    for fewer in range(len(ask[0])):
        for kinds in combinations(range(len(ask[0])), fewer + 1):
            for ways in combinations(range(len(ask)), fewer + 1):
                rows = [[ask[way][kind] for kind in kinds] for way in ways]
                told = spread(alike(rows), kinds, len(ask[0]))
                if is_wear(ask, told):
                    return told
    return None


def alike(rows):
    """Weights by which all rows come to the same number, none above 0; noughts where many would do."""
    whole = determinant(rows)
    found = [determinant([row[:at] + [-1] + row[at + 1:] for row in rows]) for at in range(len(rows))]
    return found if whole > 0 else [-number for number in found]


def determinant(rows):
    """The determinant of as many rows as there are numbers in each; 1 where there are none."""
    if not rows:
        return 1
    found = 0
    sign = 1
    for at, number in enumerate(rows[0]):
        found += sign * number * determinant([row[:at] + row[at + 1:] for row in rows[1:]])
        sign = -sign
    return found


def spread(numbers, places, many):
    """So many numbers: those told, made as small as they go together, at their places, and noughts."""
    most = 0
    for number in numbers:
        most = gcd(most, number)
    found = [0] * many
    for place, number in zip(places, numbers):
        found[place] = number // max(1, most)
    return tuple(found)


def worn_by(house):
    """The number of the first ask that has a wear, and a wear of it; None where none has one."""
    for i, ask in enumerate(house):
        found = wear_of(ask)
        if found is not None:
            return i, found
    return None


def rounds(house):
    """A round for each ask; None where there is none for one of them."""
    found = [round_of(ask) for ask in house]
    return None if None in found else tuple(found)


def share(ask, told):
    """What is wanted of each kind where the told round of the ask is done, way behind way."""
    least = there = (0,) * len(ask[0])
    # While one way is taken each kind goes all up or all down: it is lowest behind a way.
    for way, many in zip(ask, told):
        there = put_together(there, tuple([change * many for change in way]))
        least = tuple([min(one, other) for one, other in zip(least, there)])
    return tuple([-number for number in least])


def shares(house, told):
    """The shares of all asks, by the told rounds of them, together."""
    found = (0,) * kinds_of(house)
    for ask, one in zip(house, told):
        found = put_together(found, share(ask, one))
    return found


def are_rounds(house, thing):
    """True where the thing, anything, is a tuple of rounds of all asks of the house."""
    if not isinstance(thing, tuple) or len(thing) != len(house):
        return False
    return all([is_round(ask, one) for ask, one in zip(house, thing)])


class Rounder:
    """A store that meets each ask by its own round, over and over."""

    def __init__(self, house, told, store):
        if not are_rounds(house, told):
            raise NoRound("these are no rounds of all the asks")
        if not is_store(house, store) or not covers(store, shares(house, told)):
            raise NoStore("this is no store that covers the shares")
        self._house = house
        self._rounds = told
        self._store = store
        # For each ask the way at which its round stands, and how often this was taken.
        self._stands = [(0, 0) for _ in house]

    def meet(self, i):
        """Meets the ask i by the way at which its round stands, and tells the way's number."""
        if not is_number_of(i, len(self._house)):
            raise NoAsk(i)
        way, taken = self._stands[i]
        many = self._rounds[i]
        while taken == many[way]:
            way = (way + 1) % len(many)
            taken = 0
        self._stands[i] = (way, taken + 1)
        self._store = put_together(self._store, self._house[i][way])
        return way

    def store(self):
        """The store as it is now."""
        return self._store
