"""What prefixes answers."""

import unittest

from tests.calling import PLAN, PREFIXES, WORK, ask, asking, groups, indexing, last

TABLE = groups(3, (4, 1, 0, 10), (2, 1, 1, 5), (6, 2, 0, 100), (2, 0, 1, 7))


def prefixes(call, keys, **more):
    return last(TABLE, call, indexing(keys, **more), PREFIXES)


class Prefixes(unittest.TestCase):
    def test_one_key(self):
        self.assertEqual(prefixes(asking([], [0]), [0]), [1, 122])
        self.assertEqual(prefixes(asking([(0, 2, 2)], [], 0, [2]), [0]), [1, 60])

    def test_fewer_keys_make_the_range_wider_and_cover_less(self):
        call = asking([(0, 2, 2), (1, 0, 0)], [], 0, [2])
        self.assertEqual(prefixes(call, [0, 1, 2]), [3, 60, 35, 7])

    def test_fewer_keys_make_the_order_not_free(self):
        self.assertEqual(prefixes(asking([], [0, 1], 0, [], 1), [0, 1]), [2, 976, 1])
        self.assertEqual(prefixes(asking([(0, 2, 2)], [1], 0, [], 1), [0, 1]), [2, 96, 1])
        self.assertEqual(prefixes(asking([], [0], 0, [], 1), [0, 1]), [2, 1, 1])

    def test_fewer_keys_look_up_what_they_do_not_filter(self):
        call = asking([(1, 1, 1)], [], 0, [2])
        self.assertEqual(prefixes(call, [0, 1]), [2, 610, 182])

    def test_first_keys_not_last_ones(self):
        self.assertEqual(prefixes(asking([(1, 1, 1)]), [0, 1]), [2, 610, 122])
        self.assertEqual(prefixes(asking([(1, 1, 1)]), [1, 0]), [2, 15, 15])

    def test_included_columns_stay(self):
        call = asking([(1, 1, 1)], [0], 0, [2])
        self.assertEqual(prefixes(call, [0, 1], included=[2]), [2, 610, 122])
        self.assertEqual(prefixes(call, [1, 0], included=[2]), [2, 120, 15])
        self.assertEqual(prefixes(asking([(1, 1, 1)]), [0, 2], included=[1]), [2, 122, 122])

    def test_limit(self):
        # With one key 1 lies ahead of 3, with two behind it.
        call = asking([(1, 1, 1)], [0], 0, [2], 5)
        self.assertEqual(prefixes(call, [0, 1], included=[2]), [2, 25, 12])

    def test_condition_stays(self):
        self.assertEqual(prefixes(asking([(1, 1, 1)], [0]), [0, 1], condition=(1, 1, 1)), [2, 75, 15])

    def test_four_keys(self):
        lying = groups(4, (1, 1, 1, 1, 8), (1, 1, 1, 2, 4), (1, 1, 2, 1, 2), (1, 2, 1, 1, 1), (2, 1, 1, 1, 100))
        call = asking([(column, 1, 1) for column in (3, 2, 1, 0)])
        self.assertEqual(last(lying, call, indexing([0, 1, 2, 3]), PREFIXES), [4, 75, 70, 60, 8])

    def test_table_without_groups(self):
        self.assertEqual(last(groups(3), asking([], [1]), indexing([2, 0, 1]), PREFIXES), [3, 0, 0, 0])

    def test_largest_costs(self):
        rows = [(number // 10, number % 10, 0, 9, 1000000) for number in range(12)]
        told = last(groups(4, *rows), asking([], [3], 0, [2]), indexing([1, 3, 2]), PREFIXES)
        self.assertEqual(told, [3, 96000000, 96000000, 48000000])

    def test_index_stays_as_it_was(self):
        told = ask(TABLE, asking([(0, 2, 2)], [1], 0, [], 1), indexing([0, 1]), PLAN, WORK, PREFIXES, PLAN, WORK, PREFIXES)
        self.assertEqual(told[3:6], [[1, 0, 1, 1, 12], [1, 0, 0, 1], [2, 96, 1]])
        self.assertEqual(told[6:], told[3:6])


if __name__ == "__main__":
    unittest.main()
