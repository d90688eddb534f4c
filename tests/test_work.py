"""What work answers: entries touched, looked up, sorted, and what it costs."""

import unittest

from oneindex.helps import answers
from tests.calling import PLAN, WHY, WORK, ask, asking, groups, indexing, last

# By column 0 the groups are touched 1, 3, 0, 2; 1 and 3 are alike there.
TABLE = groups(3, (4, 1, 0, 10), (2, 1, 1, 5), (6, 2, 0, 100), (2, 0, 1, 7))


def work(call, keys, **more):
    return last(TABLE, call, indexing(keys, **more), WORK)


class FreeAndCovered(unittest.TestCase):
    def works(self, limit, backwards=0):
        return work(asking([], [0], backwards, [], limit), [0])

    def test_no_limit(self):
        self.assertEqual(self.works(0), [122, 0, 0, 122])

    def test_limit_within_a_group(self):
        for limit in (1, 4, 6, 15, 121):
            self.assertEqual(self.works(limit), [limit, 0, 0, limit])

    def test_limit_at_a_group_s_end(self):
        for limit in (5, 12, 22, 122):
            self.assertEqual(self.works(limit), [limit, 0, 0, limit])

    def test_limit_beyond_all_rows(self):
        for limit in (123, 1000000):
            self.assertEqual(self.works(limit), [122, 0, 0, 122])

    def test_asked_does_not_count(self):
        for asked in (0, 1000):
            self.assertEqual(work(asking(asked=asked), [0]), [122, 0, 0, 122])


class FoundInPart(unittest.TestCase):
    """Column 1 is 1 in groups 0 and 1 alone; the range is all entries."""

    def works(self, limit, backwards=0, keys=(0,), **more):
        return work(asking([(1, 1, 1)], [0], backwards, [], limit), keys, **more)

    def test_covered_by_an_included_column(self):
        self.assertEqual(self.works(0, included=[1]), [122, 0, 0, 122])
        self.assertEqual(self.works(5, included=[1]), [5, 0, 0, 5])
        self.assertEqual(self.works(6, included=[1]), [13, 0, 0, 13])
        self.assertEqual(self.works(15, included=[1]), [22, 0, 0, 22])
        self.assertEqual(self.works(16, included=[1]), [122, 0, 0, 122])

    def test_not_covered_each_entry_is_looked_up(self):
        self.assertEqual(self.works(0), [122, 122, 0, 610])
        self.assertEqual(self.works(5), [5, 5, 0, 25])
        self.assertEqual(self.works(6), [13, 13, 0, 65])
        self.assertEqual(self.works(15), [22, 22, 0, 110])
        self.assertEqual(self.works(16), [122, 122, 0, 610])

    def test_backwards(self):
        self.assertEqual(self.works(1, 1, included=[1]), [101, 0, 0, 101])
        self.assertEqual(self.works(10, 1, included=[1]), [110, 0, 0, 110])
        self.assertEqual(self.works(11, 1, included=[1]), [118, 0, 0, 118])
        self.assertEqual(self.works(15, 1, included=[1]), [122, 0, 0, 122])

    def test_filters_of_own_columns_spare_look_ups(self):
        call = asking([(1, 1, 1)], [0], 0, [2], 0)
        self.assertEqual(work(call, [0], included=[1]), [122, 15, 0, 182])
        self.assertEqual(work(call, [0, 1]), [122, 15, 0, 182])
        self.assertEqual(work(call, [0], included=[1, 2]), [122, 0, 0, 122])

    def test_filters_of_other_columns_do_not(self):
        call = asking([(1, 1, 1), (2, 1, 1)], [0])
        self.assertEqual(work(call, [0]), [122, 122, 0, 610])
        self.assertEqual(work(call, [0], included=[1]), [122, 15, 0, 182])
        self.assertEqual(work(call, [0], included=[2]), [122, 12, 0, 170])
        self.assertEqual(work(call, [0, 1, 2]), [122, 0, 0, 122])


class Backwards(unittest.TestCase):
    def test_alike_in_all_keys_are_turned_too(self):
        # Of 1 and 3, alike in column 0, 1 lies first: forwards 5 entries come ahead of 3's.
        self.assertEqual(work(asking([(0, 2, 2), (1, 0, 0)], limit=1), [0], included=[1]), [6, 0, 0, 6])
        self.assertEqual(work(asking([(0, 2, 2), (1, 0, 0)], [], 1, [], 1), [0], included=[1]), [1, 0, 0, 1])
        self.assertEqual(work(asking([(0, 2, 2), (1, 1, 1)], [], 1, [], 1), [0], included=[1]), [8, 0, 0, 8])

    def test_alike_in_the_first_key_go_by_the_second(self):
        self.assertEqual(work(asking([(0, 2, 2), (2, 1, 1)], limit=1), [0, 1], included=[2]), [1, 0, 0, 1])
        self.assertEqual(work(asking([(1, 1, 1)], [0], 0, [], 1), [0, 1]), [8, 0, 0, 8])
        self.assertEqual(work(asking([(1, 0, 0)], [0], 0, [], 1), [0, 1]), [1, 0, 0, 1])
        self.assertEqual(work(asking([(1, 1, 1)], [0], 1, [], 1), [0, 1]), [101, 0, 0, 101])

    def test_without_an_order(self):
        self.assertEqual(work(asking([(1, 1, 1)], [], 0, [], 1), [0], included=[1]), [1, 0, 0, 1])
        self.assertEqual(work(asking([(1, 1, 1)], [], 1, [], 1), [0], included=[1]), [101, 0, 0, 101])

    def test_included_columns_do_not_order(self):
        self.assertEqual(work(asking([(1, 0, 0)], limit=1), [0], included=[1]), [6, 0, 0, 6])


class Sorted(unittest.TestCase):
    def test_all_found_are_sorted_and_none_left_out(self):
        for limit in (0, 1, 14, 15, 1000000):
            for backwards in (0, 1):
                call = asking([(1, 1, 1)], [2], backwards, [], limit)
                self.assertEqual(work(call, [0], included=[1, 2]), [122, 0, 15, 167])
                self.assertEqual(work(call, [0], included=[1]), [122, 15, 15, 227])
                self.assertEqual(work(call, [0]), [122, 122, 15, 655])

    def test_range_is_touched_alone(self):
        self.assertEqual(work(asking([(0, 0, 4)], [1], 0, [], 3), [0, 2]), [22, 22, 22, 176])

    def test_order_of_columns_with_equal_filters_is_not_sorted(self):
        self.assertEqual(work(asking([(1, 1, 1)], [1], 0, [], 4), [1]), [4, 0, 0, 4])
        self.assertEqual(work(asking([(1, 1, 1), (2, 0, 0)], [2, 1], 0, [], 4), [1], included=[2]), [4, 0, 0, 4])
        self.assertEqual(work(asking([(1, 1, 1), (2, 1, 1)], [2, 1], 0, [], 4), [1], included=[2]), [14, 0, 0, 14])

    def test_nothing_found_nothing_sorted(self):
        self.assertEqual(work(asking([(1, 7, 8)], [2]), [0]), [122, 122, 0, 610])
        self.assertEqual(work(asking([(0, 7, 8)], [2]), [0]), [0, 0, 0, 0])


class WithCondition(unittest.TestCase):
    def test_only_entries_are_touched(self):
        call = asking([(1, 1, 1)], [0])
        self.assertEqual(work(call, [0], condition=(1, 1, 1)), [15, 15, 0, 75])
        self.assertEqual(work(call, [0], included=[1], condition=(1, 1, 1)), [15, 0, 0, 15])

    def test_condition_s_column_is_filtered_by_look_up_alone(self):
        # Entries hold 0 to 1 in column 1; that it's 1 is seen in the table.
        call = asking([(1, 1, 1)], [0], 0, [], 6)
        self.assertEqual(work(call, [0], condition=(1, 0, 1)), [13, 13, 0, 65])
        self.assertEqual(work(call, [0], included=[1], condition=(1, 0, 1)), [13, 0, 0, 13])


class Whole(unittest.TestCase):
    def test_largest_table(self):
        rows = [(number // 10, number % 10, 0, 9, 1000000) for number in range(12)]
        told = ask(groups(4, *rows), asking([], [3], 0, [2]), indexing([1]), PLAN, WORK)
        self.assertEqual(told[3:], [[0, 0, 0, 0, 12000000], [12000000, 12000000, 12000000, 96000000]])

    def test_many_calls_in_one_list(self):
        calls = []
        expected = []
        for limit in range(1, 20):
            calls.extend([TABLE, asking([], [0], 0, [], limit), indexing([0]), WORK])
            expected.extend([[3, 4, 122], [122], [122, 244], [limit, 0, 0, limit]])
        self.assertEqual(ask(*calls), expected)

    def test_eighty_calls(self):
        told = ask(TABLE, asking(), indexing([0]), *[PLAN, WHY, WORK] * 25, WORK, WHY)
        self.assertEqual(len(told), 80)
        self.assertEqual(told[3:78], [[0, 0, 1, 1, 122], [-1, -1, -1], [122, 0, 0, 122]] * 25)

    def test_list_handed_in_stays_as_it_was(self):
        calls = TABLE + asking([(0, 2, 2)], [1], 1, [2], 3) + indexing([0, 1], [2], (0, 2, 3))
        calls = calls + PLAN + WHY + WORK + [0, 2, 5, 0] + WORK
        before = list(calls)
        told = answers(calls)
        self.assertEqual(calls, before)
        self.assertIsNot(told, calls)

    def test_nothing_is_kept_from_one_time_to_the_next(self):
        calls = TABLE + asking() + indexing([0]) + WORK
        told = answers(calls)
        self.assertEqual(answers(WORK), [1, -8])
        self.assertEqual(answers(calls), told)


if __name__ == "__main__":
    unittest.main()
