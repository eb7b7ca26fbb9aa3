"""Houses put together of others."""

from everstock.houses import kinds_of


def together(house, other):
    """The house with the asks of both houses, which are of the same kinds."""
    return house + other


def beside(house, other):
    """The house with the kinds of both houses, and the asks of both, each with noughts for the other one's kinds."""
    behind = (0,) * kinds_of(other)
    ahead = (0,) * kinds_of(house)
    asks = [tuple([way + behind for way in ask]) for ask in house]
    return tuple(asks + [tuple([ahead + way for way in ask]) for ask in other])


def times(house, m):
    """The house with each number of its ways m times."""
    return tuple([tuple([tuple([number * m for number in way]) for way in ask]) for ask in house])
