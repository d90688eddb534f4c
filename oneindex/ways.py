"""The two ways to go about a question: by the whole table, and by an index that serves it."""

from oneindex.parts import passes_all
from oneindex.planning import covers, groups_in_range, is_free, is_free_by_table

TABLE_TOUCH_COST = 2
INDEX_TOUCH_COST = 1


class Way:
    """The groups as their rows are touched, whether the order is free, and what's done with each row.

    Rows that pass the look-up filters are looked up; where these are None, none is.
    """

    def __init__(self, question, groups, free, touch_cost, look_up_filters):
        self.question = question
        self.groups = groups
        self.free = free
        self.touch_cost = touch_cost
        self.look_up_filters = look_up_filters

    def finds(self, group):
        """Whether the rows of this group are found, once they're touched."""
        return passes_all(self.question.filters, group)

    def looks_up(self, group):
        """Whether the rows of this group are looked up, once they're touched."""
        return self.look_up_filters is not None and passes_all(self.look_up_filters, group)

    def found_at_end(self):
        """With how many rows found it ends; 0 if it goes on to the last row."""
        return self.question.limit if self.free else 0


def way_by_table(table, question):
    """By the whole table; its rows are touched as they lie, backwards or not."""
    return Way(question, table.groups, is_free_by_table(question), TABLE_TOUCH_COST, None)


def way_by_index(table, index, question):
    """By this index, which serves the question."""
    look_up_filters = None
    if not covers(index, question):
        look_up_filters = question.filters_on(index.own_columns())
    groups = groups_as_touched(table, index, question)
    return Way(question, groups, is_free(index, question), INDEX_TOUCH_COST, look_up_filters)


def groups_as_touched(table, index, question):
    """The groups in the range, in the order in which their entries are touched."""
    groups = sorted(
        groups_in_range(table, index, question),
        key=lambda group: [group.cells[column] for column in index.key_columns],
    )
    if question.backwards:
        # Turned round as a whole: those alike in all keys are turned, too.
        groups.reverse()
    return groups
