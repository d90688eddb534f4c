"""What whole and best answer."""

import unittest

from tests.calling import BEST, WHOLE, ask, asking, groups, indexing, last

TABLE = groups(3, (4, 1, 0, 10), (2, 1, 1, 5), (6, 2, 0, 100), (2, 0, 1, 7))


def whole(**parts):
    return last(TABLE, asking(**parts), WHOLE)


class WholeFree(unittest.TestCase):
    def test_no_limit(self):
        self.assertEqual(whole(), [122, 0, 244])

    def test_limit_within_a_group(self):
        for limit in (1, 9, 11, 14, 16, 121):
            self.assertEqual(whole(limit=limit), [limit, 0, 2 * limit])

    def test_limit_at_a_group_s_end(self):
        for limit in (10, 15, 115, 122):
            self.assertEqual(whole(limit=limit), [limit, 0, 2 * limit])

    def test_limit_beyond_all_rows(self):
        for limit in (123, 1000000):
            self.assertEqual(whole(limit=limit), [122, 0, 244])

    def test_rows_not_found_between(self):
        # Groups 1 and 3 are found; 0 and 2 lie ahead of them.
        touched = {1: 11, 5: 15, 6: 116, 11: 121, 12: 122, 13: 122, 0: 122}
        for limit, count in touched.items():
            self.assertEqual(whole(filters=[(2, 1, 1)], limit=limit), [count, 0, 2 * count])

    def test_rows_not_found_behind_the_last_one(self):
        self.assertEqual(whole(filters=[(1, 1, 1)], limit=14), [14, 0, 28])
        self.assertEqual(whole(filters=[(1, 1, 1)], limit=15), [15, 0, 30])
        self.assertEqual(whole(filters=[(1, 1, 1)], limit=16), [122, 0, 244])

    def test_nothing_found(self):
        for limit in (0, 1):
            self.assertEqual(whole(filters=[(1, 7, 8)], limit=limit), [122, 0, 244])

    def test_order_of_columns_with_equal_filters_alone(self):
        self.assertEqual(whole(filters=[(1, 1, 1)], order=[1]), [122, 0, 244])
        self.assertEqual(whole(filters=[(1, 1, 1)], order=[1], limit=12), [12, 0, 24])
        self.assertEqual(whole(filters=[(2, 1, 1), (1, 0, 0)], order=[1, 2], limit=2), [117, 0, 234])

    def test_backwards_does_not_turn_the_table(self):
        self.assertEqual(whole(backwards=1, limit=4), [4, 0, 8])
        self.assertEqual(whole(filters=[(2, 1, 1)], backwards=1, limit=6), [116, 0, 232])
        self.assertEqual(whole(filters=[(2, 1, 1)], order=[2], backwards=1, limit=1), [11, 0, 22])

    def test_wanted_and_asked_do_not_matter(self):
        self.assertEqual(whole(wanted=[2, 0, 1], limit=4, asked=0), [4, 0, 8])
        self.assertEqual(whole(wanted=[2], limit=4, asked=1000), [4, 0, 8])


class WholeSorted(unittest.TestCase):
    def test_all_are_touched_and_all_found_are_sorted(self):
        for backwards in (0, 1):
            for limit in (0, 1, 15, 1000000):
                more = {"backwards": backwards, "limit": limit}
                self.assertEqual(whole(order=[0], **more), [122, 122, 610])
                self.assertEqual(whole(filters=[(1, 1, 1)], order=[0], **more), [122, 15, 289])
                self.assertEqual(whole(filters=[(1, 1, 1)], order=[1, 0], **more), [122, 15, 289])

    def test_other_filters_do_not_free(self):
        self.assertEqual(whole(filters=[(1, 1, 2)], order=[1], limit=3), [122, 115, 589])

    def test_nothing_found_nothing_sorted(self):
        self.assertEqual(whole(filters=[(1, 7, 8)], order=[0], limit=3), [122, 0, 244])

    def test_table_without_groups(self):
        told = ask(groups(2), asking([], [], 0, [], 3), WHOLE, asking([], [1]), WHOLE)
        self.assertEqual([told[2], told[4]], [[0, 0, 0], [0, 0, 0]])

    def test_largest_table(self):
        rows = [(number // 10, number % 10, 0, 9, 1000000) for number in range(12)]
        self.assertEqual(last(groups(4, *rows), asking([], [3]), WHOLE), [12000000, 12000000, 60000000])


class Best(unittest.TestCase):
    def best(self, size, **parts):
        """By the index two entries are touched and looked up: that costs 10."""
        call = asking(filters=[(0, 3, 3)], wanted=[1], **parts)
        return last(groups(2, (3, 0, 2), (5, 0, size)), call, indexing([0]), BEST)

    def test_index_costs_less(self):
        self.assertEqual(self.best(4), [1, 10, 12])
        self.assertEqual(self.best(1000000), [1, 10, 2000004])

    def test_as_much(self):
        self.assertEqual(self.best(3), [0, 10, 10])

    def test_index_costs_more(self):
        self.assertEqual(self.best(2), [0, 8, 10])

    def test_asked_does_not_count(self):
        for asked in (0, 1, 1000):
            self.assertEqual(self.best(4, asked=asked), [1, 10, 12])
            self.assertEqual(self.best(2, asked=asked), [0, 8, 10])

    def test_limit_ends_both(self):
        self.assertEqual(self.best(1000000, limit=1), [0, 2, 5])

    def test_limit_ends_one(self):
        # By column 1 the index's order is free, the table's isn't; by column 0 only the index's rows are sorted.
        self.assertEqual(last(TABLE, asking([], [1], 0, [], 2), indexing([1]), BEST), [1, 2, 610])
        self.assertEqual(last(TABLE, asking([], [1], 0, [], 2), indexing([1, 0]), BEST), [1, 2, 610])
        self.assertEqual(last(TABLE, asking([], [1], 0, [], 2), indexing([0]), BEST), [0, 610, 976])

    def test_index_that_does_not_serve(self):
        told = ask(TABLE, asking([(1, 1, 1)]), indexing([1], [], (1, 2, 2)), BEST, indexing([1], [], (1, 1, 2)), BEST)
        self.assertEqual([told[3], told[5]], [[0, 244, -1], [1, 15, 244]])

    def test_nothing_to_do(self):
        self.assertEqual(last(groups(1), asking(), indexing([0]), BEST), [0, 0, 0])
        self.assertEqual(last(TABLE, asking([(0, 8, 8)]), indexing([0]), BEST), [1, 0, 244])


if __name__ == "__main__":
    unittest.main()
