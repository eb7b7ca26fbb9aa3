"""Keeps and guides of plans, by which asks are met for ever, and books, by which a foe wears a stand out."""

from everstock.charts import Chart
from everstock.errors import NoAsk, NoBook, NoGuide
from everstock.fours import covers_one, in_four, least_of, reached_by
from everstock.houses import covers, is_number_of, is_pair, is_store_of, is_whole
from everstock.plans import is_stand, is_stand_of, leads_on


def keep_there(plan, stand):
    """For each room the least stores of the box of the stand's time where it lasts for ever, else None."""
    chart = Chart(plan)
    t, lasting = chart.fate(stand)
    return chart.told(chart.within(t)) if lasting else None


def guide_there(plan, stand):
    """The guide by the keep of the stand; None where it doesn't last for ever."""
    kept = keep_there(plan, stand)
    if kept is None:
        return None
    _, rooms = plan
    return {
        (room, store, i): first_covering(plan, i, (room, store), kept)
        for room, stores in enumerate(kept) for store in stores for i in range(len(rooms[room]))
    }


def first_covering(plan, i, stand, kept):
    """The first pair by which the ask leads to what covers one of those kept there, and the first of these."""
    found = [
        (number, one) for number, (room, store) in leads_on(plan, i, stand)
        for one in kept[room] if covers(store, one)
    ]
    return found[0]


def book_there(plan, stand):
    """The book by which the foe wears the stand out; None where it lasts for ever."""
    chart = Chart(plan)
    if chart.life(stand) is None:
        return None
    found = {}
    todo = [stand]
    while todo:
        there = todo.pop()
        if there not in found:
            lived = chart.life(there)
            i = first_wearing(plan, there, chart, lived)
            found[there] = (lived + 1, i)
            todo.extend([reached for _, reached in leads_on(plan, i, there)])
    return found


def first_wearing(plan, stand, chart, lived):
    """The number of the first ask of which no pair leads to a stand that lasts as many asks as this one lived."""
    _, rooms = plan
    for i in range(len(rooms[stand[0]])):
        if not any([chart.lasts(reached, lived) for _, reached in leads_on(plan, i, stand)]):
            return i


def is_keep_there(plan, stand, thing):
    """True where the thing, anything, is a keep of the plan that holds for the stand."""
    if not is_stand(plan, stand) or not isinstance(thing, list):
        return False
    kinds, rooms = plan
    if len(thing) != len(rooms) or not all([is_list_of_stores(stores, kinds) for stores in thing]):
        return False
    # The others cover one of these each, and so meet each ask as that one does.
    lowest = [least_of([in_four(store) for store in stores]) for stores in thing]
    room, store = stand
    if not covers_one(in_four(store), lowest[room]):
        return False
    return all([is_met_there(ask, one, lowest) for at, asks in enumerate(rooms) for ask in asks for one in lowest[at]])


def is_list_of_stores(thing, kinds):
    """True where the thing, anything, is a list of stores of so many kinds, or an empty one."""
    return isinstance(thing, list) and all([is_store_of(one, kinds) for one in thing])


def is_met_there(ask, store, lowest):
    """True where some pair of the ask leads from the store, in four, to what covers one of the lowest of its room."""
    return any([covers_one(reached_by(in_four(way), store), lowest[to]) for way, to in ask])


def is_guide_there(plan, stand, thing):
    """True where the thing, anything, is a guide of the plan that holds for the stand."""
    if not is_stand(plan, stand) or not isinstance(thing, dict):
        return False
    if not all([is_asked(plan, asked) for asked in thing]):
        return False
    _, rooms = plan
    firsts = {(room, store): True for room, store, _ in thing}
    if not all([first + (i,) in thing for first in firsts for i in range(len(rooms[first[0]]))]):
        return False
    if not all([is_guided(plan, asked, met, firsts) for asked, met in thing.items()]):
        return False
    # In a room without asks any store may be a first one.
    room, store = stand
    return rooms[room] == () or any([first[0] == room and covers(store, first[1]) for first in firsts])


def is_asked(plan, thing):
    """True where the thing, anything, is a triple of a room, a store and the number of an ask of the room."""
    if not isinstance(thing, tuple) or len(thing) != 3 or not is_stand_of(plan, thing[:2]):
        return False
    _, rooms = plan
    return is_number_of(thing[2], len(rooms[thing[0]]))


def is_guided(plan, asked, thing, firsts):
    """True where the thing, anything, is a pair by which the asked triple comes to a first stand."""
    kinds, rooms = plan
    room, store, i = asked
    if not is_pair(thing) or not is_number_of(thing[0], len(rooms[room][i])) or not is_store_of(thing[1], kinds):
        return False
    number, second = thing
    for led, (to, reached) in leads_on(plan, i, (room, store)):
        if led == number:
            return covers(reached, second) and (rooms[to] == () or (to, second) in firsts)
    return False


def guided_there(plan, stand, told, asks):
    """The numbers of the pairs by which the told guide meets the asks, one behind the other, from the stand on."""
    if not is_guide_there(plan, stand, told):
        raise NoGuide("this is no guide that holds for the stand")
    _, rooms = plan
    room, store = stand
    there = min([first for to, first, _ in told if to == room and covers(store, first)], default=store)
    numbers = []
    for i in asks:
        if not is_number_of(i, len(rooms[room])):
            raise NoAsk(i)
        number, there = told[(room, there, i)]
        _, room = rooms[room][i][number]
        numbers.append(number)
    return numbers


def is_book_there(plan, stand, thing):
    """True where the thing, anything, is a book of the plan that holds for the stand."""
    if not is_stand(plan, stand) or not isinstance(thing, dict):
        return False
    if not all([is_stand_of(plan, there) and is_ranked(plan, there, pair) for there, pair in thing.items()]):
        return False
    rows = by_rank(thing)
    if not all([is_wearing(plan, there, thing, rows) for there in thing]):
        return False
    return first_covering_row(rows, stand) is not None


def is_ranked(plan, stand, thing):
    """True where the thing, anything, is a pair of a rank and the number of an ask of the stand's room."""
    _, rooms = plan
    return is_pair(thing) and is_whole(thing[0]) and thing[0] >= 1 and is_number_of(thing[1], len(rooms[stand[0]]))


def by_rank(told):
    """The rows (rank, stand, ask's number) of a book, sorted."""
    return sorted([(rank, there, i) for there, (rank, i) in told.items()])


def is_wearing(plan, stand, told, rows):
    """True where each pair of the stand's ask leads to none, or to what a stand of lesser rank covers."""
    rank, i = told[stand]
    for _, reached in leads_on(plan, i, stand):
        # Most often what is led to is in the book itself, and the rows need not be gone through.
        if reached not in told or told[reached][0] >= rank:
            row = first_covering_row(rows, reached)
            if row is None or row[0] >= rank:
                return False
    return True


def first_covering_row(rows, stand):
    """The first of the rows whose stand covers the told one; None where there is none."""
    room, store = stand
    for row in rows:
        to, other = row[1]
        if to == room and covers(other, store):
            return row
    return None


def played_there(plan, stand, told, answer):
    """The asks, the answers that led on, and how it ended, where the told book is played against anybody."""
    if not is_book_there(plan, stand, told):
        raise NoBook("this is no book that holds for the stand")
    rows = by_rank(told)
    asks = []
    numbers = []
    there = stand
    while True:
        _, _, i = first_covering_row(rows, there)
        asks.append(i)
        led = {number: reached for number, reached in leads_on(plan, i, there)}
        if not led:
            return tuple(asks), tuple(numbers), "stuck"
        room, store = there
        number = answer(room, i, store)
        if not is_whole(number) or number not in led:
            return tuple(asks), tuple(numbers), "way"
        numbers.append(number)
        there = led[number]
