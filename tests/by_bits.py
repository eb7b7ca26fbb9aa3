"""What lasts within a great box, gone through store by store: each store is a bit of one long number."""


class Box:
    def __init__(self, kinds, b):
        self.b = b
        self.kinds = kinds
        self.strides = [(b + 1) ** kind for kind in range(kinds)]
        self.all = (1 << (b + 1) ** kinds) - 1
        # For each kind and number the stores with at least so many of the kind.
        self.from_on = [[self.with_from_on(kind, number) for number in range(b + 2)] for kind in range(kinds)]

    def with_from_on(self, kind, number):
        """The bits of the stores with this number of the kind, or more."""
        stride = self.strides[kind]
        once = "1" * (self.b + 1 - number) * stride + "0" * number * stride
        again = self.all.bit_length() // len(once)
        return int(once * again, 2)

    def ahead(self, kind, change, there):
        """The stores from which, by this change of one kind, one comes to those that are there."""
        stride, b = self.strides[kind], self.b
        if change < 0:
            if -change > b:
                return 0
            return (there & ~self.from_on[kind][b + change + 1]) << -change * stride
        change = min(change, b)
        found = (there & self.from_on[kind][change]) >> change * stride
        full = there & self.from_on[kind][b]
        for less in range(change):
            found |= full >> less * stride
        return found

    def ahead_of_way(self, way, there):
        for kind, change in enumerate(way):
            there = self.ahead(kind, change, there)
        return there

    def lasting(self, house):
        there = self.all
        while True:
            before = there
            for ask in house:
                met = 0
                for way in ask:
                    met |= self.ahead_of_way(way, there)
                there &= met
            if there == before:
                return there

    def least(self, there):
        """The least of these stores, sorted."""
        more = 0
        for kind, stride in enumerate(self.strides):
            more |= (there & ~self.from_on[kind][self.b]) << stride
        bits = bin(there & ~more)[:1:-1]
        return sorted(self.store_at(at) for at, bit in enumerate(bits) if bit == "1")

    def store_at(self, at):
        return tuple(at // stride % (self.b + 1) for stride in self.strides)


def least_and_how_many(house, b):
    box = Box(len(house[0][0]), b)
    there = box.lasting(house)
    return box.least(there), bin(there).count("1")
