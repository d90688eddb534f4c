"""Promise 2: question."""

import unittest

from tests.calling import FAR, NO_QUESTION, NO_TABLE, NOT_WHOLE, PLAN, WHY, WORK
from tests.calling import ask, asking, groups, indexing, last, question

TABLE = groups(3, (0, 1, 2, 10), (9, 1, 0, 200), (5, 5, 5, 3000))
# Two filters, an order of two columns, backwards, one wanted column, limit, asked.
WHOLE = [2, 1, 1, 1, 0, 0, 9, 2, 2, 0, 1, 1, 1, 7, 3]


class WholeQuestions(unittest.TestCase):
    def found(self, call):
        return last(TABLE, call)

    def test_rows_found(self):
        self.assertEqual(self.found(question(*WHOLE)), [210])
        self.assertEqual(self.found(asking()), [3210])
        self.assertEqual(self.found(asking([(1, 1, 1), (2, 1, 9)])), [10])
        self.assertEqual(self.found(asking([(0, 1, 4)])), [0])

    def test_filter_edges_let_pass(self):
        self.assertEqual(self.found(asking([(0, 0, 0)])), [10])
        self.assertEqual(self.found(asking([(0, 9, 9)])), [200])
        self.assertEqual(self.found(asking([(0, 0, 5)])), [3010])
        self.assertEqual(self.found(asking([(0, 5, 9)])), [3200])
        self.assertEqual(self.found(asking([(0, 6, 9)])), [200])
        self.assertEqual(self.found(asking([(0, 0, 4)])), [10])

    def test_limit_and_asking_leave_the_found_ones(self):
        for limit in (0, 1, 1000000):
            for asked in (0, 1, 1000):
                self.assertEqual(self.found(asking([(1, 1, 1)], limit=limit, asked=asked)), [210])

    def test_every_column_everywhere(self):
        filters = [(2, 0, 9), (0, 0, 9), (1, 0, 9)]
        self.assertEqual(self.found(asking(filters, [2, 1, 0], 1, [0, 2, 1])), [3210])

    def test_table_without_groups(self):
        self.assertEqual(last(groups(1), asking([(0, 0, 9)], [0], 0, [0], 3)), [0])


class ListsThatAreNoQuestion(unittest.TestCase):
    def refuse(self, *numbers):
        self.assertEqual(last(TABLE, question(*numbers)), NOT_WHOLE, numbers)

    def refuse_asking(self, **parts):
        self.assertEqual(last(TABLE, asking(**parts)), NOT_WHOLE, parts)

    def test_too_few_numbers(self):
        for length in range(len(WHOLE)):
            self.refuse(*WHOLE[:length])

    def test_numbers_left_over(self):
        self.refuse(*WHOLE, 0)
        self.refuse(*WHOLE, *([1] * 25))

    def test_counts_beyond_the_edge(self):
        for count in (-1, FAR, -FAR):
            self.refuse(count, 0, 0, 0, 0, 1)
            self.refuse(0, count, 0, 0, 0, 1)
            self.refuse(0, 0, 0, count, 0, 1)

    def test_more_columns_than_the_table_has(self):
        self.refuse_asking(filters=[(0, 1, 1), (1, 1, 1), (2, 1, 1), (3, 1, 1)])
        self.refuse_asking(filters=[(0, 1, 1), (1, 1, 1), (2, 1, 1), (2, 1, 1)])
        self.refuse_asking(order=[0, 1, 2, 3])
        self.refuse_asking(order=[0, 1, 2, 0])
        self.refuse_asking(wanted=[0, 1, 2, 3])

    def test_columns_beyond_the_edge(self):
        for column in (-1, 3, FAR, -FAR):
            self.refuse_asking(filters=[(column, 1, 1)])
            self.refuse_asking(order=[column])
            self.refuse_asking(wanted=[column])

    def test_columns_of_another_table(self):
        self.assertEqual(ask(TABLE, asking(order=[2]), groups(2), asking(order=[2]))[1:], [[3210], [2, 0, 0], NOT_WHOLE])

    def test_a_column_twice(self):
        self.refuse_asking(filters=[(1, 1, 1), (1, 1, 1)])
        self.refuse_asking(filters=[(1, 1, 1), (0, 1, 1), (1, 2, 3)])
        self.refuse_asking(order=[1, 1])
        self.refuse_asking(order=[2, 0, 2])
        self.refuse_asking(wanted=[1, 1])
        self.refuse_asking(wanted=[2, 0, 2])

    def test_filter_values_beyond_the_edge(self):
        for value in (-1, 10, FAR, -FAR):
            self.refuse_asking(filters=[(0, value, value)])
            self.refuse_asking(filters=[(0, min(value, 0), 9 if value < 0 else value)])

    def test_second_value_below_the_first(self):
        self.refuse_asking(filters=[(0, 5, 4)])
        self.refuse_asking(filters=[(0, 9, 0)])
        self.refuse_asking(filters=[(1, 1, 1), (0, 1, 0)])

    def test_backwards_beyond_the_edge(self):
        for backwards in (-1, 2, FAR, -FAR):
            self.refuse_asking(backwards=backwards)

    def test_limit_beyond_the_edge(self):
        for limit in (-1, 1000001, FAR, -FAR):
            self.refuse_asking(limit=limit)

    def test_asked_beyond_the_edge(self):
        for asked in (-1, 1001, FAR, -FAR):
            self.refuse_asking(asked=asked)


class WhatAQuestionLeaves(unittest.TestCase):
    def test_ahead_of_a_table(self):
        self.assertEqual(ask(question(*WHOLE), question(), question(1)), [NO_TABLE] * 3)
        self.assertEqual(last(asking(), groups(1), indexing([0]), PLAN), NO_QUESTION)

    def test_new_question_is_the_question_and_the_index_stays(self):
        told = ask(TABLE, asking(), indexing([1]), WORK, asking([(1, 5, 5)], wanted=[1]), WORK)
        self.assertEqual(told[3], [3210, 0, 0, 3210])
        self.assertEqual(told[5], [3000, 0, 0, 3000])

    def test_refused_question_changes_nothing(self):
        before = [PLAN, WHY, WORK]
        told = ask(TABLE, question(*WHOLE), indexing([1, 0]), *before, asking(limit=-1), *before, question(), *before)
        self.assertEqual(told[6], NOT_WHOLE)
        self.assertEqual(told[7:10], told[3:6])
        self.assertEqual(told[10], NOT_WHOLE)
        self.assertEqual(told[11:], told[3:6])

    def test_refused_question_is_no_question(self):
        self.assertEqual(last(TABLE, indexing([0]), asking(limit=-1), PLAN), NO_QUESTION)


if __name__ == "__main__":
    unittest.main()
