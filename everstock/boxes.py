"""What lasts within a box, where what is more than it holds is thrown away."""

from everstock.asks import NOTHING, asks_in_four, cut
from everstock.columns import NONE, columns_of, heights_over, settled
from everstock.fours import FOUR, in_four, joined, least_in_all, least_of, needed
from everstock.houses import kinds_of


def least_within(house, b):
    """The least stores that last within the box b, sorted."""
    return cut(house, least_in_box(house, b))


def how_many(house, b):
    """How many stores of the box b last within it."""
    heights = heights_over(least_in_box(house, b), columns_of(sides_of(house, b)))
    return sum([b + 1 - height for height in heights if height < NONE])


def above(house, b, store):
    """The least stores that cover the store and one of the least ones of the box b, sorted."""
    return cut(house, least_of(joined(in_four(store), least_in_box(house, b))))


def least_in_box(house, b):
    """The least stores that last within the box b, of four numbers each."""
    asks = asks_in_four(house)
    sides = sides_of(house, b)
    columns = columns_of(sides)
    found = [NOTHING]
    seen = 0
    # To go from one number of asks to the next is quick where it ends soon; where it
    # doesn't, the columns take over before more stores are seen than there are columns.
    while seen < len(columns):
        before = found
        found = least_one_more_within(asks, before, b)
        if found == before:
            return found
        seen += len(found)
    heights = settled(heights_over(found, columns), asks, sides, b)
    return least_of([(height,) + column for height, column in zip(heights, columns) if height < NONE])


def least_one_more_within(asks, before, b):
    """The least stores of the box b that last one ask more within it than those before."""
    return least_in_all(before, [least_for_ask_within(ask, before, b) for ask in asks])


def least_for_ask_within(ask, before, b):
    """The least stores of the box b from which some way leads to what covers one of those before."""
    return least_of([store for way in ask for store in needed(way, before) if max(store) <= b])


def sides_of(house, b):
    """How many numbers the box b has of each kind but the first; one of those that aren't there."""
    kinds = kinds_of(house)
    return [b + 1 if kind < kinds else 1 for kind in range(1, FOUR)]
