"""Lists of numbers read as a table, a question or an index, or refused as not whole."""

from oneindex.parts import Filter, Group, Index, Question, Table
from oneindex.refusals import NotWhole

MOST_COLUMNS = 4
MOST_GROUPS = 12
MOST_IN_GROUP = 1000000
TOP_VALUE = 9
MOST_LIMIT = 1000000
MOST_ASKED = 1000


class Reader:
    """Takes the numbers of a list one after the other."""

    def __init__(self, numbers):
        self.numbers = numbers
        self.place = 0

    def take(self, low, high):
        """The next number, which is to lie from low to high."""
        if self.place >= len(self.numbers):
            raise NotWhole()
        number = self.numbers[self.place]
        if number < low or number > high:
            raise NotWhole()
        self.place += 1
        return number

    def finish(self):
        """Refuses numbers that are left over."""
        if self.place < len(self.numbers):
            raise NotWhole()


def read_table(numbers):
    """The table that this list is."""
    reader = Reader(numbers)
    width = reader.take(1, MOST_COLUMNS)
    group_count = reader.take(0, MOST_GROUPS)
    groups = []
    for number in range(group_count):
        cells = []
        for column in range(width):
            cells.append(reader.take(0, TOP_VALUE))
        if cells in [group.cells for group in groups]:
            raise NotWhole()
        groups.append(Group(number, cells, reader.take(1, MOST_IN_GROUP)))
    reader.finish()
    return Table(width, groups)


def read_columns(reader, width, least):
    """How many columns, and they; each once."""
    column_count = reader.take(least, width)
    columns = []
    for turn in range(column_count):
        columns.append(reader.take(0, width - 1))
    refuse_repeats(columns)
    return columns


def refuse_repeats(columns):
    """Refuses columns of which one comes twice."""
    if len(set(columns)) < len(columns):
        raise NotWhole()


def read_filter(reader, width):
    """A column, from, to."""
    column = reader.take(0, width - 1)
    low = reader.take(0, TOP_VALUE)
    high = reader.take(low, TOP_VALUE)
    return Filter(column, low, high)


def read_filters(reader, width):
    """How many filters, and they; of unlike columns."""
    filter_count = reader.take(0, width)
    filters = []
    for turn in range(filter_count):
        filters.append(read_filter(reader, width))
    refuse_repeats([each.column for each in filters])
    return filters


def read_question(numbers, width):
    """The question that this list is, of a table with so many columns."""
    reader = Reader(numbers)
    filters = read_filters(reader, width)
    order = read_columns(reader, width, 0)
    backwards = reader.take(0, 1) == 1
    wanted = read_columns(reader, width, 0)
    limit = reader.take(0, MOST_LIMIT)
    asked = reader.take(0, MOST_ASKED)
    reader.finish()
    return Question(filters, order, backwards, wanted, limit, asked)


def read_index(numbers, width):
    """The index that this list is, of a table with so many columns."""
    reader = Reader(numbers)
    key_columns = read_columns(reader, width, 1)
    included = read_columns(reader, width, 0)
    refuse_repeats(key_columns + included)
    condition = None
    if reader.take(0, 1) == 1:
        condition = read_filter(reader, width)
    reader.finish()
    return Index(key_columns, included, condition)
