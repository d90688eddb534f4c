"""The one object that a line of calls works on."""

from oneindex.parts import count_rows, passes_all
from oneindex.planning import count_equal_keys, covers, first_lacking, first_out_of_order
from oneindex.planning import groups_held, groups_in_range, is_free, next_key_filters, serves
from oneindex.reading import read_index, read_question, read_table
from oneindex.refusals import NoIndex, NoQuestion, NoTable, NotServing
from oneindex.working import work_by_index


class Bench:
    """The table, the question and the index from now on; None where there's none."""

    def __init__(self):
        self.table = None
        self.question = None
        self.index = None

    def take_table(self, numbers):
        """Answers how many columns, groups, rows."""
        table = read_table(numbers)
        self.table = table
        self.question = None
        self.index = None
        return [table.width, len(table.groups), count_rows(table.groups)]

    def take_question(self, numbers):
        """Answers how many rows are found."""
        self.ask_for_table()
        question = read_question(numbers, self.table.width)
        self.question = question
        found = [group for group in self.table.groups if passes_all(question.filters, group)]
        return [count_rows(found)]

    def take_index(self, numbers):
        """Answers how many entries, its room."""
        self.ask_for_table()
        index = read_index(numbers, self.table.width)
        self.index = index
        entry_count = count_rows(groups_held(self.table, index))
        return [entry_count, entry_count * (1 + len(index.own_columns()))]

    def plan(self):
        """Answers what the index can do: equal keys, next key, covers, free, range."""
        self.ask_for_serving()
        return [
            count_equal_keys(self.index, self.question),
            len(next_key_filters(self.index, self.question)),
            1 if covers(self.index, self.question) else 0,
            1 if is_free(self.index, self.question) else 0,
            count_rows(groups_in_range(self.table, self.index, self.question)),
        ]

    def why(self):
        """Answers by which column the index doesn't serve, cover, give the order."""
        self.ask_for_index()
        unkept = -1
        if not serves(self.index, self.question):
            unkept = self.index.condition.column
        return [
            unkept,
            first_lacking(self.index, self.question),
            first_out_of_order(self.index, self.question),
        ]

    def work(self):
        """Answers how many entries are touched, looked up, sorted, and what it costs."""
        self.ask_for_serving()
        return work_by_index(self.table, self.index, self.question)

    def ask_for_table(self):
        """Refuses where there's no table."""
        if self.table is None:
            raise NoTable()

    def ask_for_question(self):
        """Refuses where there's no table, then where there's no question."""
        self.ask_for_table()
        if self.question is None:
            raise NoQuestion()

    def ask_for_index(self):
        """Refuses as for a question, then where there's no index."""
        self.ask_for_question()
        if self.index is None:
            raise NoIndex()

    def ask_for_serving(self):
        """Refuses as for an index, then where it doesn't serve."""
        self.ask_for_index()
        if not serves(self.index, self.question):
            raise NotServing()
