"""Promise 2: index."""

import unittest

from tests.calling import FAR, NO_INDEX, NO_TABLE, NOT_WHOLE, PLAN, WHY, WORK
from tests.calling import ask, asking, groups, index, indexing, last

TABLE = groups(3, (0, 1, 2, 10), (9, 1, 0, 200), (5, 5, 5, 3000))
# Two keys, one included column, a condition.
WHOLE = [2, 2, 0, 1, 1, 1, 0, 5, 9]


class WholeIndexes(unittest.TestCase):
    def answer(self, call):
        return last(TABLE, call)

    def test_entries_and_room(self):
        self.assertEqual(self.answer(index(*WHOLE)), [3200, 12800])
        self.assertEqual(self.answer(indexing([0])), [3210, 6420])
        self.assertEqual(self.answer(indexing([2, 1])), [3210, 9630])
        self.assertEqual(self.answer(indexing([2], [1])), [3210, 9630])
        self.assertEqual(self.answer(indexing([1, 0, 2])), [3210, 12840])
        self.assertEqual(self.answer(indexing([1], [2, 0])), [3210, 12840])

    def test_condition_edges(self):
        self.assertEqual(self.answer(indexing([1], [], (0, 0, 0))), [10, 20])
        self.assertEqual(self.answer(indexing([1], [], (0, 9, 9))), [200, 400])
        self.assertEqual(self.answer(indexing([1], [], (0, 0, 9))), [3210, 6420])
        self.assertEqual(self.answer(indexing([1], [], (0, 0, 5))), [3010, 6020])
        self.assertEqual(self.answer(indexing([1], [], (0, 1, 4))), [0, 0])

    def test_condition_on_a_column_of_its_own_takes_no_more_room(self):
        self.assertEqual(self.answer(indexing([0], [1], (0, 5, 9))), [3200, 9600])
        self.assertEqual(self.answer(indexing([0], [1], (1, 1, 1))), [210, 630])
        self.assertEqual(self.answer(indexing([0], [1], (2, 5, 5))), [3000, 9000])

    def test_table_without_groups(self):
        self.assertEqual(last(groups(4), indexing([3, 0], [1, 2])), [0, 0])

    def test_widest_table(self):
        self.assertEqual(last(groups(4, (1, 2, 3, 4, 6)), indexing([3, 0, 1, 2], [], (3, 4, 4))), [6, 30])


class ListsThatAreNoIndex(unittest.TestCase):
    def refuse(self, *numbers):
        self.assertEqual(last(TABLE, index(*numbers)), NOT_WHOLE, numbers)

    def refuse_indexing(self, *parts):
        self.assertEqual(last(TABLE, indexing(*parts)), NOT_WHOLE, parts)

    def test_too_few_numbers(self):
        for length in range(len(WHOLE)):
            self.refuse(*WHOLE[:length])

    def test_numbers_left_over(self):
        self.refuse(*WHOLE, 0)
        self.refuse(1, 0, 0, 0, 0)
        self.refuse(1, 0, 0, 0, 0, 1, 2)
        self.refuse(*WHOLE, *([0] * 11))

    def test_no_key(self):
        self.refuse(0, 0, 0)
        self.refuse(0, 1, 1, 0)

    def test_counts_beyond_the_edge(self):
        for count in (-1, FAR, -FAR):
            self.refuse(count, 0, 0)
            self.refuse(1, 0, count, 0)

    def test_more_columns_than_the_table_has(self):
        self.refuse_indexing([0, 1, 2, 3])
        self.refuse_indexing([0, 1, 2, 0])
        self.refuse_indexing([0, 1, 2], [3])
        self.refuse_indexing([0], [1, 2, 3])

    def test_columns_beyond_the_edge(self):
        for column in (-1, 3, FAR, -FAR):
            self.refuse_indexing([column])
            self.refuse_indexing([0], [column])
            self.refuse_indexing([0], [], (column, 1, 1))

    def test_a_column_twice(self):
        self.refuse_indexing([1, 1])
        self.refuse_indexing([2, 0, 2])
        self.refuse_indexing([0], [1, 1])

    def test_keys_and_included_share_a_column(self):
        self.refuse_indexing([0], [0])
        self.refuse_indexing([0, 1], [2, 1])

    def test_condition_that_is_not_whole(self):
        for marker in (-1, 2, FAR, -FAR):
            self.refuse(1, 0, 0, marker)
            self.refuse(1, 0, 0, marker, 0, 1, 1)
        self.refuse(1, 0, 0, 0, 0, 1, 1)
        self.refuse_indexing([0], [], (0, 5, 4))
        for value in (-1, 10, FAR, -FAR):
            self.refuse_indexing([0], [], (0, value, value))
        self.refuse_indexing([0], [], (0, -1, 9))
        self.refuse_indexing([0], [], (0, 0, 10))


class WhatAnIndexLeaves(unittest.TestCase):
    def test_ahead_of_a_table(self):
        self.assertEqual(ask(index(*WHOLE), index(), index(1)), [NO_TABLE] * 3)
        self.assertEqual(last(indexing([0]), groups(1), asking(), PLAN), NO_INDEX)

    def test_new_index_is_the_index_and_the_question_stays(self):
        told = ask(TABLE, asking([(0, 5, 5)]), indexing([1]), WORK, indexing([0]), WORK)
        self.assertEqual(told[3], [3210, 3210, 0, 5 * 3210])
        self.assertEqual(told[5], [3000, 0, 0, 3000])

    def test_refused_index_changes_nothing(self):
        before = [PLAN, WHY, WORK]
        told = ask(TABLE, asking([(0, 5, 5)]), indexing([1]), *before, indexing([0], [0]), *before, index(), *before)
        self.assertEqual(told[6], NOT_WHOLE)
        self.assertEqual(told[7:10], told[3:6])
        self.assertEqual(told[10], NOT_WHOLE)
        self.assertEqual(told[11:], told[3:6])

    def test_refused_index_is_no_index(self):
        self.assertEqual(last(TABLE, asking(), indexing([0], [0]), PLAN), NO_INDEX)

    def test_index_before_the_question(self):
        self.assertEqual(last(TABLE, indexing([0]), asking([(0, 5, 5)]), PLAN), [1, 0, 1, 1, 3000])


if __name__ == "__main__":
    unittest.main()
