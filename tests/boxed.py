"""Houses for the tests of boxes, fates and keeps."""

import random

from tests import by_words

NEVER_TAKES = (((0, 0),), ((1, 0), (0, 3)))
WEARS_OUT = (((-1,),),)
TO_AND_FRO = (((-1, 1), (1, -1)),)
# The first ask never wears anything out; the second one does.
ONE_ASK_WEARS = (((0,),), ((-1,),))


def changing(many):
    """One thing of the first kind for so many of the second, and back: only a box of so many is enough."""
    return (((-1, many), (1, -many)),)


# A counter of four figures: within the box 20 it takes 194481 asks until nothing lasts.
FIGURES = ((-1, 0, 0, 0), (20, -1, 0, 0), (20, 20, -1, 0), (20, 20, 20, -1))
COUNTER = (FIGURES,)
# The same from behind, so that each kind is once the one that is counted fastest.
COUNTER_BACK = (tuple(way[::-1] for way in FIGURES),)
# Where there is nothing of the last two kinds, which go to and fro, the first two are counted down.
COUNTER_THAT_LASTS = (((0, 0, -1, 1), (0, 0, 1, -1), (-1, 0, 0, 0), (20, -1, 0, 0)),)


def house_of_taking(chance, kinds, asks, ways, most):
    """A house of ways that take something and give something; often one of an ask undoes another one."""
    def way():
        while True:
            numbers = tuple(chance.randint(-most, most) for _ in range(kinds))
            if min(numbers) < 0 < max(numbers):
                return numbers

    def ask():
        told = [way() for _ in range(chance.randint(1, ways - 1))]
        if chance.random() < 0.7:
            told.append(tuple(-number for number in chance.choice(told)))
        return tuple(told)

    return tuple(ask() for _ in range(chance.randint(1, asks)))


def small_houses(seed, many):
    """Houses of few kinds, asks, ways and small numbers, so many of each size."""
    chance = random.Random(seed)
    for _ in range(many):
        yield by_words.random_house(chance, 1, 3, 3, 3)
        yield by_words.random_house(chance, 2, 3, 4, 2)
        for size in ((2, 3, 4, 2), (2, 3, 4, 5), (3, 3, 5, 2), (4, 3, 5, 1), (4, 2, 4, 2)):
            yield house_of_taking(chance, *size)


def all_below_known(house, store):
    """True where the store, with any less of one kind, too, has a small time."""
    most = 6 if len(store) < 4 else 3
    lower = [store[:kind] + (number,) + store[kind + 1:]
             for kind in range(len(store)) for number in range(store[kind] + 1)]
    return all(by_words.time(house, one, most) is not None for one in lower)


def parts_changed(thing, odd):
    """The thing with one part of it, however far inside, less, twice, or one of the odd ones instead."""
    if isinstance(thing, (tuple, list)):
        yield tuple(thing) if isinstance(thing, list) else list(thing)
        for at, part in enumerate(thing):
            yield thing[:at] + thing[at + 1:]
            yield thing[:at + 1] + thing[at:]
            for other in [*odd, *parts_changed(part, odd)]:
                yield thing[:at] + type(thing)([other]) + thing[at + 1:]
    elif isinstance(thing, dict):
        pairs = list(thing.items())
        yield pairs
        for key, told in pairs:
            rest = [pair for pair in pairs if pair[0] is not key]
            yield dict(rest)
            for other in [*odd, *parts_changed(key, odd)]:
                if is_key(other):
                    yield dict(rest + [(other, told)])
            for other in [*odd, *parts_changed(told, odd)]:
                yield dict(rest + [(key, other)])


def is_key(thing):
    try:
        hash(thing)
    except TypeError:
        return False
    return True


ODD = (None, True, False, "", "a", 0, 1, 2, -1, 10 ** 59, (), [], {}, (0,), [0], (0, 0), {0: 0}, (1, 0), (0, (0, 0)))
