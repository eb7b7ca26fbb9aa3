"""What is refused, a class for each kind of refusal."""


class StockError(ValueError):
    """Any refusal."""


class NoAsk(StockError):
    """There is no such ask."""

    def __init__(self, number):
        super().__init__("there is no ask of this number")
        self.number = number


class NoKind(StockError):
    """There is no such kind."""

    def __init__(self, number):
        super().__init__("there is no kind of this number")
        self.number = number


class NoName(StockError):
    """What is told is no name, or no name that may stand here."""

    def __init__(self, name):
        super().__init__("this is no name, or none that is here")
        self.name = name


class Taken(StockError):
    """The name is there already."""

    def __init__(self, name):
        super().__init__("this name is there already")
        self.name = name


class Full(StockError):
    """There are as many as there may be."""

    def __init__(self, most):
        super().__init__("there are as many as there may be")
        self.most = most


class NoHouse(StockError):
    """What is told is no house, or makes none."""


class NoStore(StockError):
    """What is told is no store, or more than is there."""


class NoWay(StockError):
    """No way meets the ask."""


class NoSpare(StockError):
    """What would be left doesn't last for ever."""


class NoGuide(StockError):
    """What is told is no guide that holds."""


class NoBook(StockError):
    """What is told is no book that holds."""


class NoRound(StockError):
    """What is told are no rounds of all the asks."""
