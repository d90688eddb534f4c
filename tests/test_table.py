"""Promise 1: table."""

import unittest

from tests.calling import FAR, NO_INDEX, NO_QUESTION, NO_TABLE, NOT_WHOLE, PLAN, WHY, WORK
from tests.calling import ask, asking, groups, indexing, last, table

WHOLE = [2, 2, 1, 5, 3, 1, 7, 2]


class WholeTables(unittest.TestCase):
    def test_answers_columns_groups_rows(self):
        self.assertEqual(ask(table(*WHOLE)), [[2, 2, 5]])

    def test_no_groups(self):
        for width in (1, 2, 3, 4):
            self.assertEqual(ask(table(width, 0)), [[width, 0, 0]])

    def test_edges_of_each_number(self):
        self.assertEqual(ask(table(1, 1, 0, 1)), [[1, 1, 1]])
        self.assertEqual(ask(table(1, 1, 9, 1000000)), [[1, 1, 1000000]])
        self.assertEqual(ask(table(4, 1, 0, 9, 0, 9, 2)), [[4, 1, 2]])

    def test_twelve_groups(self):
        rows = [(number // 10, number % 10, 0, 9, 1000000) for number in range(12)]
        self.assertEqual(ask(groups(4, *rows)), [[4, 12, 12000000]])

    def test_groups_alike_but_for_one_value(self):
        self.assertEqual(ask(table(2, 3, 1, 5, 1, 5, 1, 1, 1, 6, 1)), [[2, 3, 3]])


class ListsThatAreNoTable(unittest.TestCase):
    def refuse(self, *numbers):
        self.assertEqual(ask(table(*numbers)), [NOT_WHOLE], numbers)

    def test_too_few_numbers(self):
        for length in range(len(WHOLE)):
            self.refuse(*WHOLE[:length])

    def test_numbers_left_over(self):
        self.refuse(*WHOLE, 0)
        self.refuse(*WHOLE, 1, 8, 1)
        self.refuse(1, 0, 0)
        self.refuse(*WHOLE, *([0] * 72))

    def test_columns_beyond_the_edge(self):
        for width in (0, -1, 5, FAR, -FAR):
            self.refuse(width, 0)
        self.refuse(5, 1, 1, 2, 3, 4, 5, 1)
        self.refuse(0, 1, 3)

    def test_groups_beyond_the_edge(self):
        for count in (-1, 13, FAR, -FAR):
            self.refuse(1, count)
        rows = [(number // 10, number % 10, 1) for number in range(13)]
        self.refuse(2, 13, *[number for row in rows for number in row])

    def test_values_beyond_the_edge(self):
        for value in (-1, 10, FAR, -FAR):
            self.refuse(1, 1, value, 1)
            self.refuse(2, 2, 1, 5, 3, 1, value, 2)

    def test_row_counts_beyond_the_edge(self):
        for count in (0, -1, 1000001, FAR, -FAR):
            self.refuse(1, 1, 0, count)
            self.refuse(1, 2, 0, 1, 1, count)

    def test_two_groups_with_the_same_values(self):
        self.refuse(1, 2, 4, 1, 4, 2)
        self.refuse(2, 3, 1, 5, 3, 1, 7, 2, 1, 5, 4)


class WhatATableLeaves(unittest.TestCase):
    ready = (table(*WHOLE), asking(filters=[(1, 5, 5)]), indexing([1]))

    def test_no_question_and_no_index(self):
        told = ask(*self.ready, WORK, table(*WHOLE), PLAN, WHY, WORK, asking(), PLAN, WHY, WORK)
        self.assertEqual(told[3], [3, 0, 0, 3])
        self.assertEqual(told[5:8], [NO_QUESTION] * 3)
        self.assertEqual(told[9:], [NO_INDEX] * 3)

    def test_index_alone_is_left_no_more(self):
        told = ask(*self.ready, table(*WHOLE), indexing([0]), PLAN)
        self.assertEqual(told[-1], NO_QUESTION)

    def test_new_table_is_the_table(self):
        told = ask(table(*WHOLE), table(1, 2, 3, 7, 4, 8), asking(), indexing([0]))
        self.assertEqual(told, [[2, 2, 5], [1, 2, 15], [15], [15, 30]])

    def test_refused_table_changes_nothing(self):
        told = ask(*self.ready, PLAN, WHY, WORK, table(1, 0, 0), PLAN, WHY, WORK, asking(), table(), indexing([0]))
        self.assertEqual(told[6], NOT_WHOLE)
        self.assertEqual(told[7:10], told[3:6])
        self.assertEqual(told[10:], [[5], NOT_WHOLE, [5, 10]])

    def test_refused_table_at_the_beginning_is_no_table(self):
        self.assertEqual(last(table(1, 0, 0), asking()), NO_TABLE)
        self.assertEqual(last(table(2, 1, 1), PLAN), NO_TABLE)


if __name__ == "__main__":
    unittest.main()
