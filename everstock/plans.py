"""Plans of rooms, in each of which other asks are asked, and which stores last where."""

from everstock.charts import Chart
from everstock.houses import MOST_ASKS, MOST_KINDS, MOST_WAYS
from everstock.houses import is_number_of, is_pair, is_store_of, is_tuple_of, is_way, is_whole, kinds_of, put_together

MOST_ROOMS = 6


def is_plan(thing):
    """True where the thing, anything, is a plan."""
    if not is_pair(thing):
        return False
    kinds, rooms = thing
    if not is_whole(kinds) or not 1 <= kinds <= MOST_KINDS or not is_tuple_of(rooms, MOST_ROOMS):
        return False
    return all([is_room(room, kinds, len(rooms)) for room in rooms])


def is_room(thing, kinds, many):
    """True where the thing, anything, is a room of so many kinds, one of so many rooms."""
    if thing == ():
        return True
    return is_tuple_of(thing, MOST_ASKS) and all([is_ask_there(ask, kinds, many) for ask in thing])


def is_ask_there(thing, kinds, many):
    """True where the thing, anything, is an ask of pairs (way of so many kinds, number of one of so many rooms)."""
    if not is_tuple_of(thing, MOST_WAYS) or not all([is_pair(pair) for pair in thing]):
        return False
    return all([is_way(way) and len(way) == kinds and is_number_of(to, many) for way, to in thing])


def is_stand(plan, thing):
    """True where the thing, anything, is a stand of the plan."""
    return is_plan(plan) and is_stand_of(plan, thing)


def is_stand_of(plan, thing):
    """True where the thing, anything, is a stand of what is known to be a plan."""
    kinds, rooms = plan
    return is_pair(thing) and is_number_of(thing[0], len(rooms)) and is_store_of(thing[1], kinds)


def plan_of(house):
    """The plan of one room in which the asks are those of the house."""
    room = tuple([tuple([(way, 0) for way in ask]) for ask in house])
    return kinds_of(house), (room,)


def leads_on(plan, i, stand):
    """The pairs (pair's number, stand to which it leads) of the ask i of the stand's room, by number."""
    room, store = stand
    _, rooms = plan
    found = [(number, (to, put_together(store, way))) for number, (way, to) in enumerate(rooms[room][i])]
    return [(number, reached) for number, reached in found if min(reached[1]) >= 0]


def least_there(plan, n):
    """For each room the least stores that last n asks there, sorted."""
    chart = Chart(plan)
    return chart.told(chart.least(n))


def within_there(plan, b):
    """For each room the least stores that last within the box b there, sorted."""
    chart = Chart(plan)
    return chart.told(chart.within(b))


def lasts_there(plan, stand, n):
    """True where the stand lasts n asks."""
    return Chart(plan).lasts(stand, n)


def time_there(plan, stand):
    """The least number t for which the stand doesn't last t asks, or covers one of the least of the box t."""
    t, _ = Chart(plan).fate(stand)
    return t


def life_there(plan, stand):
    """How many asks the stand lasts; None where it lasts for ever."""
    return Chart(plan).life(stand)
