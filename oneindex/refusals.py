"""The refusals: each is answered as its number alone."""


class Refusal(Exception):
    """A call that is refused; its number is the answer."""

    def __init__(self, number):
        Exception.__init__(self, f"refused with {number}")
        self.number = number


class NotWhole(Refusal):
    """The list isn't whole a table, a question or an index."""

    def __init__(self):
        Refusal.__init__(self, -1)


class TooManyEntries(Refusal):
    """More entries are in the range than are gone through row by row."""

    def __init__(self):
        Refusal.__init__(self, -4)


class NoSuchWay(Refusal):
    """The way is neither the whole table nor the index."""

    def __init__(self):
        Refusal.__init__(self, -5)


class NotServing(Refusal):
    """The index doesn't serve the question."""

    def __init__(self):
        Refusal.__init__(self, -6)


class NoIndex(Refusal):
    """There's no index."""

    def __init__(self):
        Refusal.__init__(self, -7)


class NoTable(Refusal):
    """There's no table."""

    def __init__(self):
        Refusal.__init__(self, -8)


class NoQuestion(Refusal):
    """There's no question."""

    def __init__(self):
        Refusal.__init__(self, -9)
