"""What a hand holds at one time: a house and a store of it."""

from everstock.charts import Chart
from everstock.errors import NoAsk, NoKind, NoSpare, NoWay
from everstock.houses import covers, is_number_of, kinds_of, leads
from everstock.plans import plan_of


class Holding:
    """A house, the rules, and a store of it, the stock. It is never changed: each deed makes another one of it."""

    def __init__(self, rules, stock, chart):
        self.rules = rules
        self.stock = stock
        # Shared by all holdings of the same house, so that nothing is found out twice.
        self.chart = chart

    def with_stock(self, stock):
        """The same house with another store."""
        return Holding(self.rules, stock, self.chart)

    def met(self, i):
        """The number of the first way that leads from the ask i to the longest life, and the holding behind it."""
        if not is_number_of(i, len(self.rules)):
            raise NoAsk(i)
        led = leads(self.rules, i, self.stock)
        if not led:
            raise NoWay("no way meets the ask")
        number, reached = led[longest([self.chart.life((0, there)) for _, there in led])]
        return number, self.with_stock(reached)

    def left(self, stock):
        """The holding with so much left, where that lasts for ever."""
        if self.chart.life((0, stock)) is not None:
            raise NoSpare("what would be left doesn't last for ever")
        return self.with_stock(stock)

    def life(self):
        """How many asks the store lasts; None where it lasts for ever."""
        return self.chart.life((0, self.stock))

    def check_kind(self, kind):
        """Refuses what is no kind's number."""
        if not is_number_of(kind, kinds_of(self.rules)):
            raise NoKind(kind)

    def spare(self, kind):
        """How many of the kind can be taken so that what is left lasts for ever; None where the store doesn't."""
        there = self.stock[kind]
        lasting = self.least_lasting(kind, 0, there)
        return None if lasting is None else there - lasting

    def wanted(self, kind, most):
        """How few of the kind, brought, make the store last for ever; None where not even the most does."""
        there = self.stock[kind]
        lasting = self.least_lasting(kind, there, there + most)
        return None if lasting is None else lasting - there

    def least_lasting(self, kind, number, most):
        """The least number of the kind, from the told one to the most, with which the store lasts for ever, or None."""
        while number <= most:
            t, lasting = self.chart.fate((0, with_number(self.stock, kind, number)))
            if lasting:
                return number
            number = self.least_covering(kind, t, most)
        return None

    def least_covering(self, kind, n, most):
        """The least number of the kind with which the store lasts n asks; more than the most where there is none."""
        richest = with_number(self.stock, kind, most)
        least = self.chart.told(self.chart.least(n))[0]
        return min([one[kind] for one in least if covers(richest, one)], default=most + 1)


def held(house, store):
    """The holding of a house and a store of it."""
    return Holding(house, store, Chart(plan_of(house)))


def with_number(store, kind, number):
    """The store with another number of the kind."""
    return store[:kind] + (number,) + store[kind + 1:]


def longest(lives):
    """The place of the first of the longest lives; None, for ever, is longer than any number."""
    return lives.index(None if None in lives else max(lives))
