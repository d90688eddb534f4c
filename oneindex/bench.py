"""The one object that a line of calls works on."""

from oneindex.answering import shares_answered
from oneindex.machine import MOST_ROWS, run_of
from oneindex.parts import count_rows, passes_all
from oneindex.planning import count_equal_keys, covers, first_lacking, first_out_of_order
from oneindex.planning import groups_held, groups_in_range, is_free, next_key_filters, serves
from oneindex.reading import read_index, read_question, read_table
from oneindex.refusals import NoIndex, NoQuestion, NoSuchWay, NoTable, NotServing, TooManyEntries
from oneindex.ways import way_by_index, way_by_table
from oneindex.working import steps_of, work_of

BY_TABLE = 0
BY_INDEX = 1


class Bench:
    """The table, the question and the index from now on; None where there's none."""

    def __init__(self):
        self.table = None
        self.question = None
        self.index = None

    def take_table(self, numbers):
        """Answers how many columns, groups, rows."""
        table = read_table(numbers)
        self.table = table
        self.question = None
        self.index = None
        return [table.width, len(table.groups), count_rows(table.groups)]

    def take_question(self, numbers):
        """Answers how many rows are found."""
        self.ask_for_table()
        question = read_question(numbers, self.table.width)
        self.question = question
        found = [group for group in self.table.groups if passes_all(question.filters, group)]
        return [count_rows(found)]

    def take_index(self, numbers):
        """Answers how many entries, its room."""
        self.ask_for_table()
        index = read_index(numbers, self.table.width)
        self.index = index
        entry_count = count_rows(groups_held(self.table, index))
        return [entry_count, entry_count * (1 + len(index.own_columns()))]

    def plan(self):
        """Answers what the index can do: equal keys, next key, covers, free, range."""
        self.ask_for_serving()
        return [
            count_equal_keys(self.index, self.question),
            len(next_key_filters(self.index, self.question)),
            1 if covers(self.index, self.question) else 0,
            1 if is_free(self.index, self.question) else 0,
            self.count_in_range(),
        ]

    def why(self):
        """Answers by which column the index doesn't serve, cover, give the order."""
        self.ask_for_index()
        unkept = -1
        if not serves(self.index, self.question):
            unkept = self.index.condition.column
        return [
            unkept,
            first_lacking(self.index, self.question),
            first_out_of_order(self.index, self.question),
        ]

    def work(self):
        """Answers how many entries are touched, looked up, sorted, and what it costs."""
        self.ask_for_serving()
        done = work_of(self.way_by(self.index))
        return [done.touched, done.looked_up, done.put_in_order, done.cost]

    def whole(self):
        """Answers how many rows are touched by the whole table, sorted, and what it costs."""
        self.ask_for_question()
        done = work_of(way_by_table(self.table, self.question))
        return [done.touched, done.put_in_order, done.cost]

    def best(self):
        """Answers whether the index costs less, what the better way costs, and the other one."""
        self.ask_for_index()
        table_cost = work_of(way_by_table(self.table, self.question)).cost
        if not serves(self.index, self.question):
            return [0, table_cost, -1]
        index_cost = work_of(self.way_by(self.index)).cost
        if index_cost < table_cost:
            return [1, index_cost, table_cost]
        return [0, table_cost, index_cost]

    def trace(self, way_number):
        """Answers how many groups, of each its number, its rows touched, looked up, found."""
        steps = steps_of(self.way_told(way_number))
        told = [len(steps)]
        for step in steps:
            told.extend([step.group.number, step.touched, step.looked_up, step.found])
        return told

    def answer(self, way_number):
        """Answers how many groups, of each its number, its rows answered."""
        shares = shares_answered(self.way_told(way_number))
        told = [len(shares)]
        for share in shares:
            told.extend([share.group.number, share.size])
        return told

    def rows(self):
        """Answers what's touched, looked up, sorted, found row by row, and each found row's group."""
        self.ask_for_serving()
        if self.count_in_range() > MOST_ROWS:
            raise TooManyEntries()
        run = run_of(self.way_by(self.index))
        told = [run.touched, run.looked_up, run.put_in_order, len(run.found_groups)]
        told.extend([group.number for group in run.found_groups])
        return told

    def prefixes(self):
        """Answers how many keys, and what it costs with only the first one, two, and so on."""
        self.ask_for_serving()
        whole_count = len(self.index.key_columns)
        told = [whole_count]
        for key_count in range(1, whole_count + 1):
            told.append(work_of(self.way_by(self.index.with_first_keys(key_count))).cost)
        return told

    def count_in_range(self):
        """How many entries are in the range."""
        return count_rows(groups_in_range(self.table, self.index, self.question))

    def way_by(self, index):
        """The way by this index, which serves the question."""
        return way_by_index(self.table, index, self.question)

    def way_told(self, way_number):
        """The way of this number; refuses where there's none."""
        self.ask_for_table()
        if way_number not in (BY_TABLE, BY_INDEX):
            raise NoSuchWay()
        self.ask_for_question()
        if way_number == BY_TABLE:
            return way_by_table(self.table, self.question)
        self.ask_for_serving()
        return self.way_by(self.index)

    def ask_for_table(self):
        """Refuses where there's no table."""
        if self.table is None:
            raise NoTable()

    def ask_for_question(self):
        """Refuses where there's no table, then where there's no question."""
        self.ask_for_table()
        if self.question is None:
            raise NoQuestion()

    def ask_for_index(self):
        """Refuses as for a question, then where there's no index."""
        self.ask_for_question()
        if self.index is None:
            raise NoIndex()

    def ask_for_serving(self):
        """Refuses as for an index, then where it doesn't serve."""
        self.ask_for_index()
        if not serves(self.index, self.question):
            raise NotServing()
