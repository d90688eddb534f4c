"""What the calls speak of: tables and their groups, filters, questions, indexes."""


class Group:
    """Rows that are alike: the group's number, their value in each column, and how many they are."""

    def __init__(self, number, cells, size):
        self.number = number
        self.cells = cells
        self.size = size


def count_rows(groups):
    """How many rows these groups have together."""
    return sum([group.size for group in groups])


class Table:
    """How many columns there are, and the groups in the order in which they lie."""

    def __init__(self, width, groups):
        self.width = width
        self.groups = groups


class Filter:
    """A column, and from which value to which one it may be."""

    def __init__(self, column, low, high):
        self.column = column
        self.low = low
        self.high = high

    def passes(self, group):
        """Whether the rows of this group pass."""
        return self.low <= group.cells[self.column] <= self.high

    def is_equal(self):
        """Whether it lets pass one value alone."""
        return self.low == self.high

    def keeps_to(self, other):
        """Whether it lets pass no value that the other filter doesn't."""
        return other.low <= self.low and self.high <= other.high


def passes_all(filters, group):
    """Whether the rows of this group pass all these filters."""
    return all([each.passes(group) for each in filters])


class Question:
    """What is asked: filters, an order, wanted columns, a limit, and how often."""

    def __init__(self, filters, order, backwards, wanted, limit, asked):
        self.filters = filters
        self.order = order
        self.backwards = backwards
        self.wanted = wanted
        self.limit = limit
        self.asked = asked

    def filters_on(self, columns):
        """Those filters that there are of these columns, in the columns' order."""
        kept = []
        for column in columns:
            kept.extend([each for each in self.filters if each.column == column])
        return kept

    def is_equal_on(self, column):
        """Whether there's an equal filter of this column."""
        return any([each.is_equal() for each in self.filters_on([column])])

    def without_equal(self, columns):
        """These columns, but for those with equal filters."""
        return [column for column in columns if not self.is_equal_on(column)]

    def needed_columns(self):
        """The columns that it needs, in the document's order; one may come twice."""
        return [each.column for each in self.filters] + self.order + self.wanted


class Index:
    """Key columns in order, included columns, and a condition or None."""

    def __init__(self, key_columns, included, condition):
        self.key_columns = key_columns
        self.included = included
        self.condition = condition

    def own_columns(self):
        """Keys and included ones; the condition's column is none by itself."""
        return self.key_columns + self.included

    def with_first_keys(self, key_count):
        """The index with only so many of its keys, from the first one on."""
        return Index(self.key_columns[:key_count], self.included, self.condition)

    def holds(self, group):
        """Whether the rows of this group are in the index."""
        return self.condition is None or self.condition.passes(group)
