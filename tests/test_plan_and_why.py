"""Promise 4 for plan, why and work, and what plan and why answer."""

import unittest

from tests.calling import NO_INDEX, NO_QUESTION, NO_TABLE, NOT_SERVING, PLAN, WHY, WORK
from tests.calling import ask, asking, groups, indexing, last

TABLE = groups(4, (1, 2, 3, 4, 10), (1, 2, 5, 0, 200), (1, 6, 3, 4, 3000), (7, 2, 3, 4, 40000))
ALL = 43210


class Refusals(unittest.TestCase):
    calls = (PLAN, WHY, WORK)

    def test_no_table(self):
        self.assertEqual(ask(*self.calls), [NO_TABLE] * 3)

    def test_no_question(self):
        self.assertEqual(ask(TABLE, *self.calls)[1:], [NO_QUESTION] * 3)

    def test_no_question_is_looked_at_ahead_of_no_index(self):
        self.assertEqual(ask(TABLE, indexing([0], [], (0, 1, 1)), *self.calls)[2:], [NO_QUESTION] * 3)

    def test_no_index(self):
        self.assertEqual(ask(TABLE, asking(), *self.calls)[2:], [NO_INDEX] * 3)

    def test_index_that_does_not_serve(self):
        told = ask(TABLE, asking(), indexing([0], [], (1, 2, 2)), *self.calls)
        self.assertEqual(told[3:], [NOT_SERVING, [1, -1, -1], NOT_SERVING])

    def test_refusals_change_nothing(self):
        ready = (TABLE, asking([(1, 2, 3)]), indexing([0], [], (1, 2, 2)))
        told = ask(*ready, PLAN, WORK, PLAN, WHY, asking([(1, 2, 2)]), PLAN)
        self.assertEqual(told[3:7], [NOT_SERVING] * 3 + [[1, 1, -1]])
        self.assertEqual(told[8], [0, 0, 0, 1, 40210])


class Serving(unittest.TestCase):
    def column(self, filters, condition):
        told = ask(TABLE, asking(filters), indexing([0], [], condition), PLAN, WHY, WORK)
        self.assertEqual(told[3] == NOT_SERVING, told[4][0] != -1)
        self.assertEqual(told[5] == NOT_SERVING, told[4][0] != -1)
        return told[4][0]

    def test_no_condition(self):
        self.assertEqual(self.column([], None), -1)
        self.assertEqual(self.column([(1, 2, 2)], None), -1)

    def test_filter_keeps_to_the_condition(self):
        self.assertEqual(self.column([(1, 2, 6)], (1, 2, 6)), -1)
        self.assertEqual(self.column([(1, 3, 5)], (1, 2, 6)), -1)
        self.assertEqual(self.column([(1, 2, 2)], (1, 2, 6)), -1)
        self.assertEqual(self.column([(1, 6, 6)], (1, 2, 6)), -1)
        self.assertEqual(self.column([(0, 0, 9), (1, 4, 4)], (1, 4, 4)), -1)
        self.assertEqual(self.column([(3, 0, 9)], (3, 0, 9)), -1)

    def test_filter_touches_the_condition_in_part(self):
        self.assertEqual(self.column([(1, 1, 6)], (1, 2, 6)), 1)
        self.assertEqual(self.column([(1, 2, 7)], (1, 2, 6)), 1)
        self.assertEqual(self.column([(1, 0, 9)], (1, 2, 6)), 1)
        self.assertEqual(self.column([(3, 6, 7)], (3, 2, 6)), 3)

    def test_filter_beside_the_condition(self):
        self.assertEqual(self.column([(0, 7, 9)], (0, 2, 6)), 0)
        self.assertEqual(self.column([(0, 0, 1)], (0, 2, 6)), 0)

    def test_no_filter_of_the_condition_s_column(self):
        self.assertEqual(self.column([], (2, 0, 9)), 2)
        self.assertEqual(self.column([(0, 3, 3)], (2, 3, 3)), 2)

    def test_values_that_no_row_has_count_too(self):
        # No row has 0 or 1 in column 1: the filter finds the same rows as the condition.
        self.assertEqual(self.column([(1, 0, 6)], (1, 2, 6)), 1)

    def test_table_without_groups(self):
        told = ask(groups(2), asking([(1, 1, 6)]), indexing([0], [], (1, 2, 6)), PLAN, WHY)
        self.assertEqual(told[3:], [NOT_SERVING, [1, 1, -1]])


class KeysAndRange(unittest.TestCase):
    def plan(self, filters, keys, **more):
        told = last(TABLE, asking(filters), indexing(keys, **more), PLAN)
        return [told[0], told[1], told[4]]

    def test_no_filter(self):
        self.assertEqual(self.plan([], [0, 1]), [0, 0, ALL])

    def test_equal_filters_then_none(self):
        self.assertEqual(self.plan([(0, 1, 1)], [0, 1]), [1, 0, 3210])
        self.assertEqual(self.plan([(1, 2, 2), (0, 1, 1)], [0, 1, 2]), [2, 0, 210])

    def test_equal_filters_then_another(self):
        self.assertEqual(self.plan([(0, 1, 1), (1, 2, 5)], [0, 1]), [1, 1, 210])
        self.assertEqual(self.plan([(0, 1, 1), (1, 2, 5)], [0, 1, 2]), [1, 1, 210])
        self.assertEqual(self.plan([(1, 3, 9)], [1, 0]), [0, 1, 3000])

    def test_equal_filters_of_all_keys(self):
        self.assertEqual(self.plan([(0, 1, 1), (1, 2, 2)], [0, 1]), [2, 0, 210])
        self.assertEqual(self.plan([(0, 7, 7)], [0]), [1, 0, 40000])

    def test_keys_behind_a_gap_do_not_narrow_the_range(self):
        self.assertEqual(self.plan([(1, 2, 2)], [0, 1]), [0, 0, ALL])
        self.assertEqual(self.plan([(0, 1, 5), (1, 2, 2)], [0, 1]), [0, 1, 3210])
        self.assertEqual(self.plan([(0, 1, 1), (2, 3, 3)], [0, 1, 2]), [1, 0, 3210])

    def test_included_columns_do_not_narrow_the_range(self):
        self.assertEqual(self.plan([(0, 1, 1), (1, 2, 2)], [0], included=[1]), [1, 0, 3210])

    def test_filter_of_all_values_is_a_filter(self):
        self.assertEqual(self.plan([(0, 0, 9)], [0]), [0, 1, ALL])

    def test_condition_narrows_the_range(self):
        self.assertEqual(self.plan([(2, 3, 3)], [0], condition=(2, 3, 4)), [0, 0, 43010])
        self.assertEqual(self.plan([(2, 3, 3), (0, 1, 1)], [0], condition=(2, 3, 4)), [1, 0, 3010])

    def test_nothing_in_the_range(self):
        self.assertEqual(self.plan([(0, 4, 4)], [0]), [1, 0, 0])

    def test_table_without_groups(self):
        told = ask(groups(1), asking([(0, 1, 1)], [0], 1, [0], 3), indexing([0]), PLAN, WHY, WORK)
        self.assertEqual(told[3:], [[1, 0, 1, 1, 0], [-1, -1, -1], [0, 0, 0, 0]])


class Covering(unittest.TestCase):
    def lacking(self, call, keys, **more):
        told = ask(TABLE, call, indexing(keys, **more), PLAN, WHY)
        self.assertEqual(told[3][2], 1 if told[4][1] == -1 else 0)
        return told[4][1]

    def test_nothing_needed(self):
        self.assertEqual(self.lacking(asking(), [3]), -1)

    def test_keys_and_included_cover(self):
        call = asking([(3, 1, 2)], [1], 0, [2, 0])
        self.assertEqual(self.lacking(call, [3, 1], included=[0, 2]), -1)
        self.assertEqual(self.lacking(call, [0, 1, 2, 3]), -1)

    def test_filters_then_order_then_wanted(self):
        call = asking([(3, 1, 2), (1, 0, 9)], [2], 0, [0, 1])
        self.assertEqual(self.lacking(call, [0], included=[2]), 3)
        self.assertEqual(self.lacking(call, [0], included=[2, 3]), 1)
        self.assertEqual(self.lacking(call, [3], included=[1]), 2)
        self.assertEqual(self.lacking(call, [3, 2], included=[1]), 0)

    def test_first_one_as_told_not_the_least(self):
        self.assertEqual(self.lacking(asking([], [3, 2], 0, [1]), [0]), 3)
        self.assertEqual(self.lacking(asking([], [], 0, [2, 1]), [0]), 2)

    def test_limit_does_not_matter(self):
        self.assertEqual(self.lacking(asking([], [], 1, [], 3, 1000), [0]), -1)

    def test_condition_s_column_is_not_the_index_s_own(self):
        self.assertEqual(self.lacking(asking([(1, 2, 2)]), [0], condition=(1, 2, 2)), 1)
        self.assertEqual(self.lacking(asking([(1, 2, 2)]), [0], included=[1], condition=(1, 2, 2)), -1)


class FreeOrder(unittest.TestCase):
    def broken(self, order, keys, filters=(), **more):
        columns = []
        for backwards in (0, 1):
            told = ask(TABLE, asking(filters, order, backwards), indexing(keys, **more), PLAN, WHY)
            self.assertEqual(told[3][3], 1 if told[4][2] == -1 else 0)
            columns.append(told[4][2])
        self.assertEqual(columns[0], columns[1])
        return columns[0]

    def test_empty_order(self):
        self.assertEqual(self.broken([], [2]), -1)

    def test_beginning_of_the_keys(self):
        self.assertEqual(self.broken([2], [2, 0]), -1)
        self.assertEqual(self.broken([2, 0], [2, 0]), -1)

    def test_not_the_beginning(self):
        self.assertEqual(self.broken([0], [2, 0]), 0)
        self.assertEqual(self.broken([0, 2], [2, 0]), 0)
        self.assertEqual(self.broken([2, 1], [2, 0, 1]), 1)
        self.assertEqual(self.broken([3, 1], [2, 0]), 3)

    def test_order_goes_on_behind_the_keys(self):
        self.assertEqual(self.broken([2, 0, 3], [2, 0]), 3)
        self.assertEqual(self.broken([2, 0, 3, 1], [2, 0]), 3)

    def test_included_columns_are_no_keys(self):
        self.assertEqual(self.broken([2, 0], [2], included=[0]), 0)

    def test_equal_filters_in_the_order(self):
        self.assertEqual(self.broken([1, 2], [2], [(1, 2, 2)]), -1)
        self.assertEqual(self.broken([2, 1, 0], [2, 0], [(1, 2, 2)]), -1)
        self.assertEqual(self.broken([1, 0], [2, 0], [(1, 2, 2)]), 0)

    def test_equal_filters_in_the_keys(self):
        self.assertEqual(self.broken([2], [1, 2], [(1, 2, 2)]), -1)
        self.assertEqual(self.broken([0, 2], [0, 1, 2], [(1, 2, 2)]), -1)
        self.assertEqual(self.broken([2, 0], [0, 1, 2], [(1, 2, 2)]), 2)

    def test_order_of_columns_with_equal_filters_alone(self):
        self.assertEqual(self.broken([1, 3], [2], [(1, 2, 2), (3, 4, 4)]), -1)
        self.assertEqual(self.broken([3, 1], [1, 3], [(1, 2, 2), (3, 4, 4)]), -1)

    def test_other_filters_do_not_free(self):
        self.assertEqual(self.broken([1, 2], [2], [(1, 2, 3)]), 1)
        self.assertEqual(self.broken([2], [1, 2], [(1, 2, 3)]), 2)

    def test_condition_does_not_free(self):
        self.assertEqual(self.broken([2], [1, 2], [(1, 0, 9)], condition=(1, 0, 9)), 2)


if __name__ == "__main__":
    unittest.main()
