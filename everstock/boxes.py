"""What lasts within a box, where what is more than it holds is thrown away."""

from everstock.columns import NONE, columns_of, heights_over, sides_of
from everstock.fours import in_four, joined, least_of
from everstock.houses import kinds_of
from everstock.plans import plan_of, within_there


def least_within(house, b):
    """The least stores that last within the box b, sorted."""
    return within_there(plan_of(house), b)[0]


def how_many(house, b):
    """How many stores of the box b last within it."""
    stores = [in_four(store) for store in least_within(house, b)]
    heights = heights_over(stores, columns_of(sides_of(kinds_of(house), b)))
    return sum([b + 1 - height for height in heights if height < NONE])


def above(house, b, store):
    """The least stores that cover the store and one of the least ones of the box b, sorted."""
    stores = [in_four(one) for one in least_within(house, b)]
    return [one[:kinds_of(house)] for one in least_of(joined(in_four(store), stores))]
