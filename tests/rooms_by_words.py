"""What the document says of plans of rooms, done word by word: slow, and only for small plans."""

from itertools import product

from tests.by_words import covers, is_number, is_pair, leads_to, least_of, thrown_away


def leads_on(plan, i, stand):
    room, store = stand
    found = []
    for number, (way, to) in enumerate(plan[1][room][i]):
        reached = leads_to(way, store)
        if reached is not None:
            found.append((number, (to, reached)))
    return found


def asks_of(plan, stand):
    return range(len(plan[1][stand[0]]))


def lasts(plan, stand, n, known=None):
    known = {} if known is None else known
    if n == 0:
        return True
    if (stand, n) not in known:
        known[stand, n] = all(
            any(lasts(plan, reached, n - 1, known) for _, reached in leads_on(plan, i, stand))
            for i in asks_of(plan, stand)
        )
    return known[stand, n]


def least(plan, n):
    """For each room the least stores, looked for among all that could be one of them."""
    kinds, rooms = plan
    most = n * max([0] + [-number for room in rooms for ask in room for way, _ in ask for number in way])
    known = {}
    return [
        least_of([store for store in product(range(most + 1), repeat=kinds) if lasts(plan, (room, store), n, known)])
        for room in range(len(rooms))
    ]


def within(plan, b):
    """All stands that last within the box b: the others are struck out until nothing changes."""
    kinds, rooms = plan
    there = {(room, store) for room in range(len(rooms)) for store in product(range(b + 1), repeat=kinds)}

    def met(stand, i):
        return any((to, thrown_away(store, b)) in there for _, (to, store) in leads_on(plan, i, stand))

    while True:
        struck = {stand for stand in there if not all(met(stand, i) for i in asks_of(plan, stand))}
        if not struck:
            return there
        there = there - struck


def least_within(plan, b):
    there = within(plan, b)
    return [least_of([store for to, store in there if to == room]) for room in range(len(plan[1]))]


def time(plan, stand, most):
    """The time of a stand; None where it is more than the most."""
    known = {}
    room, store = stand
    for t in range(most + 1):
        if not lasts(plan, stand, t, known) or any(covers(store, one) for one in least_within(plan, t)[room]):
            return t
    return None


def met_at_most(plan, stand, many, known):
    """How many of so many asks are met, the foe and the hand playing as well as they can."""
    if many == 0:
        return 0
    if (stand, many) not in known:
        known[stand, many] = min([many] + [
            max([0] + [1 + met_at_most(plan, reached, many - 1, known) for _, reached in leads_on(plan, i, stand)])
            for i in asks_of(plan, stand)
        ])
    return known[stand, many]


def book(plan, stand, life):
    """The book of a stand of so long a life."""
    known, found, todo = {}, {}, [(stand, life)]
    for there, lived in todo:
        for i in asks_of(plan, there):
            # A life of less than this one shows in as many asks as this one has.
            lives = [(reached, met_at_most(plan, reached, lived, known)) for _, reached in leads_on(plan, i, there)]
            if all(one < lived for _, one in lives):
                found[there] = (lived + 1, i)
                todo.extend(pair for pair in lives if pair[0] not in found)
                break
    return found


def guide(plan, kept):
    """The guide whose first stands are those of the keep."""
    found = {}
    for room, stores in enumerate(kept):
        for store in stores:
            for i in asks_of(plan, (room, store)):
                found[room, store, i] = [
                    (number, one) for number, (to, reached) in leads_on(plan, i, (room, store))
                    for one in kept[to] if covers(reached, one)
                ][0]
    return found


def is_store(plan, thing):
    return type(thing) is tuple and len(thing) == plan[0] and all(is_number(number) for number in thing)


def is_stand(plan, thing):
    return is_pair(thing) and is_number(thing[0], len(plan[1])) and is_store(plan, thing[1])


def is_keep(plan, stand, thing):
    if type(thing) is not list or len(thing) != len(plan[1]) or not all(type(stores) is list for stores in thing):
        return False
    if not all(is_store(plan, store) for stores in thing for store in stores):
        return False
    for room, stores in enumerate(thing):
        for store in stores:
            for i in asks_of(plan, (room, store)):
                led = leads_on(plan, i, (room, store))
                if not any(covers(reached, one) for _, (to, reached) in led for one in thing[to]):
                    return False
    return any(covers(stand[1], one) for one in thing[stand[0]])


def is_guide(plan, stand, thing):
    if type(thing) is not dict:
        return False
    for key in thing:
        if type(key) is not tuple or len(key) != 3 or not is_stand(plan, key[:2]):
            return False
        if not is_number(key[2], len(plan[1][key[0]])):
            return False
    firsts = [key[:2] for key in thing]
    for (room, store, i), met in thing.items():
        if not all((room, store, other) in thing for other in asks_of(plan, (room, store))):
            return False
        if not is_pair(met) or not is_number(met[0]) or not is_store(plan, met[1]):
            return False
        led = dict(leads_on(plan, i, (room, store)))
        if met[0] not in led:
            return False
        to, reached = led[met[0]]
        if not covers(reached, met[1]) or (plan[1][to] and (to, met[1]) not in firsts):
            return False
    return not plan[1][stand[0]] or any(room == stand[0] and covers(stand[1], store) for room, store in firsts)


def guided(plan, stand, told, asks):
    """The pairs' numbers, or the text "no ask" and the first that is none."""
    room, store = stand
    there = sorted(first for to, first, _ in told if to == room and covers(store, first))
    there = there[0] if there else None
    numbers = []
    for i in asks:
        if not is_number(i, len(plan[1][room])):
            return "no ask", i
        number, there = told[room, there, i]
        room = plan[1][room][i][number][1]
        numbers.append(number)
    return numbers


def is_book(plan, stand, thing):
    if type(thing) is not dict:
        return False
    for there, pair in thing.items():
        if not is_stand(plan, there) or not is_pair(pair) or not is_number(pair[0]) or pair[0] < 1:
            return False
        if not is_number(pair[1], len(plan[1][there[0]])):
            return False
    for there, (rank, i) in thing.items():
        for _, (to, reached) in leads_on(plan, i, there):
            if not any(room == to and covers(one, reached) and its[0] < rank for (room, one), its in thing.items()):
                return False
    return any(room == stand[0] and covers(one, stand[1]) for room, one in thing)


def played(plan, stand, told, answer):
    asks, numbers = [], []
    while True:
        room, store = stand
        i = told[min((told[one][0], one) for one in told if one[0] == room and covers(one[1], store))[1]][1]
        asks.append(i)
        led = dict(leads_on(plan, i, stand))
        if not led:
            return tuple(asks), tuple(numbers), "stuck"
        number = answer(room, i, store)
        if type(number) is not int or number not in led:
            return tuple(asks), tuple(numbers), "way"
        numbers.append(number)
        stand = led[number]


def random_plan(chance, kinds, rooms, asks, pairs, most):
    """A plan of ways that take something and mostly give something; rooms without asks among them."""
    def way():
        numbers = tuple(chance.randint(-most, most) for _ in range(kinds))
        return numbers if min(numbers) < 0 or chance.random() < 0.3 else way()

    def ask():
        told = [(way(), chance.randrange(rooms)) for _ in range(chance.randint(1, pairs))]
        if len(told) < pairs and chance.random() < 0.6:
            # A way back makes more last for ever.
            told.append((tuple(-number for number in chance.choice(told)[0]), chance.randrange(rooms)))
        return tuple(told)

    return kinds, tuple(
        tuple(ask() for _ in range(0 if chance.random() < 0.15 else chance.randint(1, asks))) for _ in range(rooms)
    )
