"""What the document says, done word by word: slow, and only for small houses."""

from itertools import product


def leads_to(way, store):
    reached = tuple(there + change for there, change in zip(store, way))
    return reached if all(number >= 0 for number in reached) else None


def covers(store, other):
    return all(mine >= its for mine, its in zip(store, other))


def lasts(house, store, n, known=None):
    known = {} if known is None else known
    if n == 0:
        return True
    if (store, n) not in known:
        known[store, n] = all(
            any(
                leads_to(way, store) is not None and lasts(house, leads_to(way, store), n - 1, known)
                for way in ask
            )
            for ask in house
        )
    return known[store, n]


def least(house, n):
    """The least stores, looked for among all that could be one of them."""
    kinds = len(house[0][0])
    # n asks take at most n times the most that a way takes: no least store has more.
    most = n * max(0, *[-number for ask in house for way in ask for number in way])
    known = {}
    good = [s for s in product(range(most + 1), repeat=kinds) if lasts(house, s, n, known)]
    there = set(good)

    def is_least(store):
        for kind in range(kinds):
            less = store[:kind] + (store[kind] - 1,) + store[kind + 1:]
            if less in there:
                return False
        return True

    return [store for store in good if is_least(store)]


def random_house(chance, kinds, asks, ways, most):
    def way():
        return tuple(chance.randint(-most, most) for _ in range(kinds))

    return tuple(
        tuple(way() for _ in range(chance.randint(1, ways)))
        for _ in range(chance.randint(1, asks))
    )


def thrown_away(store, b):
    return tuple(min(b, number) for number in store)


def within(house, b):
    """All stores that last within the box b: the others are struck out until nothing changes."""
    there = set(product(range(b + 1), repeat=len(house[0][0])))

    def met(store, ask):
        reached = [leads_to(way, store) for way in ask]
        return any(one is not None and thrown_away(one, b) in there for one in reached)

    while True:
        struck = {store for store in there if not all(met(store, ask) for ask in house)}
        if not struck:
            return there
        there = there - struck


def least_of(stores):
    """Those that cover no other one, sorted."""
    stores = set(stores)
    return sorted(s for s in stores if not any(covers(s, other) and s != other for other in stores))


def time(house, store, most=99):
    """The time of a store; None where it is more than the most."""
    known = {}
    for t in range(most + 1):
        if not lasts(house, store, t, known) or any(covers(store, one) for one in within(house, t)):
            return t
    return None


def met_at_most(house, store, many, known):
    """How many of so many asks are met, the foe and the hand playing as well as they can."""
    if many == 0:
        return 0
    if (store, many) not in known:
        of_each_ask = []
        for ask in house:
            reached = [leads_to(way, store) for way in ask]
            of_each_ask.append(
                max([1 + met_at_most(house, one, many - 1, known) for one in reached if one is not None],
                    default=0)
            )
        known[store, many] = min(of_each_ask)
    return known[store, many]


def book(house, store, life):
    """The book of a store of so long a life."""
    known, found, todo = {}, {}, [(store, life)]
    for there, lived in todo:
        assert met_at_most(house, there, lived + 1, known) == lived
        for i, ask in enumerate(house):
            reached = [leads_to(way, there) for way in ask]
            # A life of less than this one shows in as many asks as this one has.
            lives = [None if one is None else met_at_most(house, one, lived, known) for one in reached]
            if all(one is None or one < lived for one in lives):
                found[there] = (lived + 1, i)
                todo.extend(pair for pair in zip(reached, lives) if pair[0] is not None and pair[0] not in found)
                break
    return found


def is_number(thing, many=None):
    return type(thing) is int and thing >= 0 and (many is None or thing < many)


def is_store(house, thing):
    return type(thing) is tuple and len(thing) == len(house[0][0]) and all(is_number(n) for n in thing)


def is_keep(house, store, thing):
    if type(thing) is not list or not thing or not all(is_store(house, one) for one in thing):
        return False
    for one in thing:
        for ask in house:
            reached = [leads_to(way, one) for way in ask]
            if not any(there is not None and covers(there, other) for there in reached for other in thing):
                return False
    return any(covers(store, one) for one in thing)


def is_pair(thing):
    return type(thing) is tuple and len(thing) == 2


def is_guide(house, store, thing):
    if type(thing) is not dict:
        return False
    for asked in thing:
        if not is_pair(asked) or not is_store(house, asked[0]) or not is_number(asked[1], len(house)):
            return False
    firsts = [first for first, i in thing]
    for (first, i), met in thing.items():
        if not all((first, other) in thing for other in range(len(house))):
            return False
        if not is_pair(met) or not is_number(met[0], len(house[i])) or not is_store(house, met[1]):
            return False
        reached = leads_to(house[i][met[0]], first)
        if met[1] not in firsts or reached is None or not covers(reached, met[1]):
            return False
    return any(covers(store, first) for first in firsts)


def guide(house, kept):
    """The guide whose first stores are those of the keep."""
    found = {}
    for first in kept:
        for i, ask in enumerate(house):
            pairs = [
                (number, one) for number, way in enumerate(ask) for one in kept
                if leads_to(way, first) is not None and covers(leads_to(way, first), one)
            ]
            found[first, i] = pairs[0]
    return found


def is_book(house, store, thing):
    if type(thing) is not dict:
        return False
    for there, pair in thing.items():
        if not is_store(house, there) or not is_pair(pair):
            return False
        if not is_number(pair[0]) or pair[0] < 1 or not is_number(pair[1], len(house)):
            return False
    for there, (rank, i) in thing.items():
        for way in house[i]:
            reached = leads_to(way, there)
            if reached is not None:
                if not any(covers(one, reached) and its[0] < rank for one, its in thing.items()):
                    return False
    return any(covers(one, store) for one in thing)


def played(house, store, told, answer):
    asks, ways = [], []
    while True:
        covering = [(told[one][0], one) for one in told if covers(one, store)]
        i = told[min(covering)[1]][1]
        asks.append(i)
        reached = {number: leads_to(way, store) for number, way in enumerate(house[i])}
        reached = {number: one for number, one in reached.items() if one is not None}
        if not reached:
            return tuple(asks), tuple(ways), "stuck"
        way = answer(i, store)
        if type(way) is not int or way not in reached:
            return tuple(asks), tuple(ways), "way"
        ways.append(way)
        store = reached[way]


def is_round(ask, thing):
    if type(thing) is not tuple or len(thing) != len(ask) or not all(is_number(n) for n in thing):
        return False
    if not any(thing):
        return False
    return all(sum(way[kind] * many for way, many in zip(ask, thing)) >= 0 for kind in range(len(ask[0])))


def is_wear(ask, thing):
    if type(thing) is not tuple or len(thing) != len(ask[0]) or not all(is_number(n) for n in thing):
        return False
    return all(sum(number * weight for number, weight in zip(way, thing)) <= -1 for way in ask)


def share(ask, told):
    """Step by step: each way taken so often as told, one behind the other."""
    there = [0] * len(ask[0])
    least = list(there)
    for way, many in zip(ask, told):
        for _ in range(many):
            there = [one + change for one, change in zip(there, way)]
            least = [min(one, other) for one, other in zip(least, there)]
    return tuple(-number for number in least)
