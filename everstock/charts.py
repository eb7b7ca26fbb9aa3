"""What is found out of a plan of rooms: what lasts in each room, so many asks, within a box, or for ever."""

from everstock.columns import columns_of, least_settled, sides_of
from everstock.fours import NOTHING, covers_one, in_four, least_in_all, least_of, needed

# Boxes that are gone through ahead of those just below them, of which then not each needs to be.
GREAT_BOXES = (1, 2, 3, 4, 6, 8, 12, 16)
# From so many stores on in one room it takes ever longer to go on from each of them.
MANY = 60


class Chart:
    """A plan of rooms with what was found out of it so far, so that nothing is found out twice."""

    def __init__(self, plan):
        self._kinds, rooms = plan
        self._rooms = [[[(in_four(way), to) for way, to in ask] for ask in room] for room in rooms]
        self._lists = [[[NOTHING] for _ in rooms]]
        self._boxes = {}

    def least(self, n):
        """For each room the least stores, in four, that last n asks there."""
        while len(self._lists) <= n:
            last = self._lists[-1]
            # Each number's lists hang on those before alone: once alike, they stay so.
            if self._lists[-2:] == [last, last]:
                return last
            self._lists.append(least_one_more(self._rooms, last, None))
        return self._lists[n]

    def within(self, b):
        """For each room the least stores, in four, that last within the box b there."""
        box = self._box(b)
        while not box.settled:
            box.go_on()
        return box.found

    def lasts_within(self, stand, b):
        """True where the stand covers one of the least ones of the box b."""
        # What lasts within a box lasts within each greater one: what doesn't within the next
        # great one needs no look at those below.
        great = next_great(b)
        if great > b and not self.lasts_within(stand, great):
            return False
        room, store = stand
        there = in_four(store)
        box = self._box(b)
        # Lists only get less from one to the next: often the first few of them tell.
        while covers_one(there, box.found[room]):
            if box.settled:
                return True
            box.go_on()
        return False

    def _box(self, b):
        """The box b, gone through so far as was asked."""
        if b not in self._boxes:
            # What lasts within a box lasts each number of asks, and within each greater
            # box, so it is all among the last lists known, and among what was found there.
            great = self._boxes.get(next_great(b), None)
            lists = self._lists[-1] if great is None else great.found
            begun = [no_more_than(b, stores) for stores in lists]
            self._boxes[b] = Box(begun, self._rooms, self._kinds, b)
        return self._boxes[b]

    def lasts(self, stand, n):
        """True where the stand lasts n asks."""
        room, store = stand
        there = in_four(store)
        for number in range(min(n, len(self._lists) - 1), n + 1):
            # What doesn't last so many lasts no greater number either.
            if not covers_one(there, self.least(number)[room]):
                return False
        return True

    def fate(self, stand):
        """The time of the stand, and True where it lasts for ever."""
        room, store = stand
        there = in_four(store)
        t = 0
        while covers_one(there, self.least(t)[room]):
            if self.lasts_within(stand, t):
                return t, True
            t += 1
        return t, False

    def life(self, stand):
        """How many asks the stand lasts; None where it lasts for ever."""
        t, lasting = self.fate(stand)
        return None if lasting else t - 1

    def told(self, lists):
        """The lists of stores with as many numbers as there are kinds."""
        return [[store[:self._kinds] for store in stores] for stores in lists]


def next_great(b):
    """The least of the great boxes from b on; b itself where there is none."""
    return min([great for great in GREAT_BOXES if great >= b], default=b)


class Box:
    """A box b of a plan of rooms, gone through from one number of asks to the next until nothing changes."""

    def __init__(self, begun, rooms, kinds, b):
        # All that last within the box cover one of those found so far; once settled, these are the least of them.
        self.found = begun
        self.settled = False
        self._rooms = rooms
        self._kinds = kinds
        self._b = b
        # To go from one number of asks to the next is quick where it ends soon; where it
        # doesn't, the columns take over before more stores are seen than there are columns.
        self._left = len(columns_of(sides_of(kinds, b))) * len(rooms)

    def go_on(self):
        """Goes on to the next number of asks, or to the end where that is quicker."""
        if self._left > 0:
            before = self.found
            self.found = least_one_more(self._rooms, before, self._b)
            self.settled = self.found == before
            self._left -= sum([len(stores) * max(1, len(stores) // MANY) for stores in self.found])
        else:
            self.found = least_settled(self.found, self._rooms, self._kinds, self._b)
            self.settled = True


def least_one_more(rooms, before, b):
    """For each room the least stores that last one ask more than those before; of the box b, if there is one."""
    return [
        least_in_all(there, [least_for_ask(ask, before, b) for ask in room])
        for room, there in zip(rooms, before)
    ]


def least_for_ask(ask, before, b):
    """The least stores from which some pair of the ask leads to what covers one of those before in its room."""
    return least_of(no_more_than(b, [store for way, to in ask for store in needed(way, before[to])]))


def no_more_than(b, stores):
    """The stores that have no more than b of any kind; all where b is None."""
    return stores if b is None else [store for store in stores if max(store) <= b]
