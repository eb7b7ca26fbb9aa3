"""What lasts within a box, kept in columns, for where so many asks make a difference.

Of stores of four numbers those that are alike in all but the first one make a
column, and of each column of a box its height is kept: the least first number
with which what is there still lasts. Heights only grow, and what is looked at
again is only what leaned on a column that has grown; so it comes to an end
soon even where each number of asks wears out just one store more. Where there
are more rooms than one each has such columns, those of one room behind those
of the room before.
"""

from everstock.fours import FOUR, least_of

# Higher than any box: nothing of the column lasts.
NONE = 1000000
# Behind all columns stands one of which nothing ever lasts. To it lead the ways
# that want more than is there.
NOWHERE = -1


def sides_of(kinds, b):
    """How many numbers the box b has of each kind but the first; one of those that aren't there."""
    return [b + 1 if kind < kinds else 1 for kind in range(1, FOUR)]


def columns_of(sides):
    """All columns of so many numbers each way."""
    wide, deep, far = sides
    return [(x, y, z) for x in range(wide) for y in range(deep) for z in range(far)]


def heights_over(stores, columns):
    """For each column the least first number with which it covers one of the stores."""
    return [
        min([height for height, e, f, g in stores if x >= e and y >= f and z >= g], default=NONE)
        for x, y, z in columns
    ]


def least_settled(begun, rooms, kinds, b):
    """For each room the least of the stores that last within the box b, where no others last than those begun with."""
    sides = sides_of(kinds, b)
    columns = columns_of(sides)
    heights = [height for stores in begun for height in heights_over(stores, columns)]
    settle(heights, rooms, sides, b)
    many = len(columns)
    found = []
    for room in range(len(rooms)):
        there = heights[room * many:room * many + many]
        found.append(least_of([(height,) + column for height, column in zip(there, columns) if height < NONE]))
    return found


def settle(heights, rooms, sides, b):
    """Raises the heights until each ask is met from all that is left within the box b."""
    asked = asked_of_columns(rooms, sides)
    heights.append(NONE)
    leaning = [[] for _ in heights]
    leaning[NOWHERE] = asked
    grown = [NOWHERE]
    while grown:
        again = []
        for column in grown:
            again.extend(leaning[column])
            leaning[column] = []
        grown = []
        for ask, at, column in again:
            # Of a column of which nothing lasts there is nothing more to find out.
            if heights[column] < NONE:
                support = first_support(ask, at, heights, heights[column])
                if support is None:
                    need, support = least_need(ask, at, heights)
                    heights[column] = need if need <= b else NONE
                    grown.append(column)
                leaning[support].append((ask, at, column))
    heights.pop()


def asked_of_columns(rooms, sides):
    """All triples of an ask, as pairs (columns led to, change), a place in its room, and the column there."""
    many = sides[0] * sides[1] * sides[2]
    asked = []
    for number, room in enumerate(rooms):
        meetings = [[(columns_led_to(way, sides, to * many), way[0]) for way, to in ask] for ask in room]
        asked.extend([(ask, at, number * many + at) for at in range(many) for ask in meetings])
    return asked


def columns_led_to(way, sides, first):
    """For each column of a room the number of the one to which the way leads, in the room of the first, or NOWHERE."""
    found = [0]
    for change, side in zip(way[1:], sides):
        reached = [min(side - 1, there + change) for there in range(side)]
        found = [
            NOWHERE if column == NOWHERE or there < 0 else column * side + there
            for column in found for there in reached
        ]
    return [NOWHERE if column == NOWHERE else first + column for column in found]


def first_support(ask, at, heights, height):
    """The first column by which the ask is met at the place with this first number; None where it isn't met."""
    for led_to, change in ask:
        if heights[led_to[at]] - change <= height:
            return led_to[at]
    return None


def least_need(ask, at, heights):
    """The least first number with which the ask is met at the place, and the column that it leans on."""
    return min([(heights[led_to[at]] - change, led_to[at]) for led_to, change in ask])
