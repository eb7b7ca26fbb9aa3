"""How many asks a store lasts, and the least stores that last so many."""

from everstock.plans import lasts_there, least_there, plan_of


def lasts(house, store, n):
    """True where the store lasts n asks."""
    return lasts_there(plan_of(house), (0, store), n)


def least(house, n):
    """The least stores that last n asks, sorted."""
    return least_there(plan_of(house), n)[0]
