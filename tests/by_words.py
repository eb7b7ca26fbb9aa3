"""What the document says, done word by word: slow, and only for small houses."""

from itertools import product


def leads_to(way, store):
    reached = tuple(there + change for there, change in zip(store, way))
    return reached if all(number >= 0 for number in reached) else None


def covers(store, other):
    return all(mine >= its for mine, its in zip(store, other))


def lasts(house, store, n, known=None):
    known = {} if known is None else known
    if n == 0:
        return True
    if (store, n) not in known:
        known[store, n] = all(
            any(
                leads_to(way, store) is not None and lasts(house, leads_to(way, store), n - 1, known)
                for way in ask
            )
            for ask in house
        )
    return known[store, n]


def least(house, n):
    """The least stores, looked for among all that could be one of them."""
    kinds = len(house[0][0])
    # n asks take at most n times the most that a way takes: no least store has more.
    most = n * max(0, *[-number for ask in house for way in ask for number in way])
    known = {}
    good = [s for s in product(range(most + 1), repeat=kinds) if lasts(house, s, n, known)]
    there = set(good)

    def is_least(store):
        for kind in range(kinds):
            less = store[:kind] + (store[kind] - 1,) + store[kind + 1:]
            if less in there:
                return False
        return True

    return [store for store in good if is_least(store)]


def random_house(chance, kinds, asks, ways, most):
    def way():
        return tuple(chance.randint(-most, most) for _ in range(kinds))

    return tuple(
        tuple(way() for _ in range(chance.randint(1, ways)))
        for _ in range(chance.randint(1, asks))
    )
