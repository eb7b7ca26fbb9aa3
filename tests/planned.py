"""Plans for the tests of plans and roads."""

import random

from tests import heavy, rooms_by_words
from tests.boxed import TO_AND_FRO, WEARS_OUT, changing

# To and fro between two rooms: a thing of the first kind for some of the second, and back in the other room,
# or out of it into a room without asks.
TWO_ROOMS = (2, (
    ((((-1, 2), 1), ((0, 0), 0)), (((-1, 1), 1),)),
    ((((1, -1), 0),), (((1, -2), 0), ((0, -1), 2))),
    (),
))
# In the room 0 a thing is taken, in the room 1 two; there is a way out of it only with five.
DOWN = (1, (((((-1,), 0),), (((-1,), 1), ((-5,), 2))), ((((-2,), 0),),), ()))
# Nothing leads to the last room, and from it there is no way back.
SHUT = (1, (((((0,), 0),),), ((((-1,), 0), ((-1,), 1)), (((3,), 1),))))
NO_ASKS = (2, ((), (), ()))
# In each room some store is worn out, though no ask is by itself: now the one kind is taken, now the other.
BY_TURNS = (1, (((((-2,), 1),),), ((((1,), 0),),)))


def plan_of(house):
    return len(house[0][0]), (tuple(tuple((way, 0) for way in ask) for ask in house),)


def rooms_with(house, many, further):
    """As many rooms as told, all with the asks of the house, each way leading so many rooms further."""
    return len(house[0][0]), tuple(
        tuple(tuple((way, (room + further) % many) for way in ask) for ask in house) for room in range(many)
    )


def small_plans(seed, many):
    """Plans of few kinds, rooms, asks, pairs and small numbers, so many of each size."""
    chance = random.Random(seed)
    for _ in range(many):
        for size in ((1, 2, 2, 3, 3), (1, 3, 3, 2, 2), (2, 1, 2, 3, 2), (2, 2, 2, 3, 2), (2, 3, 2, 3, 1),
                     (2, 6, 1, 2, 2), (3, 2, 2, 3, 1), (4, 2, 1, 3, 1)):
            yield rooms_by_words.random_plan(chance, *size)


def stands_of(seed, many, most=4):
    """Plans, stands of them of small times, and these."""
    chance = random.Random(seed)
    for plan in small_plans(seed, many):
        stand = (chance.randrange(len(plan[1])), tuple(chance.randint(0, 3) for _ in range(plan[0])))
        t = rooms_by_words.time(plan, stand, {1: 8, 2: most, 3: 3, 4: 2}[plan[0]])
        if t is not None:
            yield plan, stand, t


def heavy_plans():
    """Plans of six rooms, with up to sixty least stores in each, with a stand, its time, and whether it lasts."""
    for at, (house, store, t, lasting) in enumerate(heavy.FATES):
        yield rooms_with(house, 6, at % 3), (at, store), t, lasting


HOUSES = (TO_AND_FRO, WEARS_OUT, changing(3))
