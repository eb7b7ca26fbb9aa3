"""What lasts within a box, kept in columns, for where so many asks make a difference.

Of stores of four numbers those that are alike in all but the first one make a
column, and of each column of a box its height is kept: the least first number
with which what is there still lasts. Heights only grow, and what is looked at
again is only what leaned on a column that has grown; so it comes to an end
soon even where each number of asks wears out just one store more.
"""

# Higher than any box: nothing of the column lasts.
NONE = 1000000
# Behind all columns stands one of which nothing ever lasts. To it lead the ways
# that want more than is there.
NOWHERE = -1


def columns_of(sides):
    """All columns of so many numbers each way."""
    wide, deep, far = sides
    return [(x, y, z) for x in range(wide) for y in range(deep) for z in range(far)]


def heights_over(stores, columns):
    """For each column the least first number with which it covers one of the stores."""
    return [
        min([height for height, e, f, g in stores if x >= e and y >= f and z >= g], default=NONE)
        for x, y, z in columns
    ]


def columns_led_to(way, sides):
    """For each column the number of the one to which the way leads, or NOWHERE."""
    found = [0]
    for change, side in zip(way[1:], sides):
        reached = [min(side - 1, there + change) for there in range(side)]
        found = [
            NOWHERE if column == NOWHERE or there < 0 else column * side + there
            for column in found for there in reached
        ]
    return found


def settled(begun, asks, sides, b):
    """The heights, from those begun with, once each ask is met from all that is left within the box b."""
    meetings = [[(columns_led_to(way, sides), way[0]) for way in ask] for ask in asks]
    heights = begun + [NONE]
    leaning = [[] for _ in heights]
    leaning[NOWHERE] = [(ask, column) for column in range(len(begun)) for ask in meetings]
    grown = [NOWHERE]
    while grown:
        again = []
        for column in grown:
            again.extend(leaning[column])
            leaning[column] = []
        grown = []
        for ask, column in again:
            # Of a column of which nothing lasts there is nothing more to find out.
            if heights[column] < NONE:
                need, support = least_need(ask, column, heights)
                if need > heights[column]:
                    heights[column] = need if need <= b else NONE
                    grown.append(column)
                leaning[support].append((ask, column))
    return heights[:NOWHERE]


def least_need(ask, column, heights):
    """The least first number with which the ask is met in the column, and the column that it leans on."""
    return min([(heights[led_to[column]] - change, led_to[column]) for led_to, change in ask])
