"""What rows answers."""

import unittest

from tests.calling import BY_INDEX, PLAN, ROWS, WORK, ask, asking, groups, indexing, last, trace

# By column 0 the rows are touched 1, 1, 1, 0, 0, 2, 3, 3.
TABLE = groups(2, (1, 0, 2), (0, 1, 3), (1, 2, 1), (2, 1, 2))


class Rows(unittest.TestCase):
    def rows(self, keys, index=(), **parts):
        told = last(TABLE, asking(**parts), indexing(keys, **dict(index)), ROWS)
        self.assertEqual(told[3], len(told) - 4)
        return told[:4], told[4:]

    def test_several_rows_of_a_group_one_behind_the_other(self):
        for limit in (0, 8, 9):
            told = self.rows([0], order=[0], limit=limit)
            self.assertEqual(told, ([8, 0, 0, 8], [1, 1, 1, 0, 0, 2, 3, 3]))

    def test_limit_within_a_group(self):
        self.assertEqual(self.rows([0], order=[0], limit=1), ([1, 0, 0, 1], [1]))
        self.assertEqual(self.rows([0], order=[0], limit=4), ([4, 0, 0, 4], [1, 1, 1, 0]))

    def test_limit_at_a_group_s_end(self):
        self.assertEqual(self.rows([0], order=[0], limit=3), ([3, 0, 0, 3], [1, 1, 1]))
        self.assertEqual(self.rows([0], order=[0], limit=6), ([6, 0, 0, 6], [1, 1, 1, 0, 0, 2]))

    def test_backwards(self):
        self.assertEqual(self.rows([0], order=[0], backwards=1, limit=4), ([4, 0, 0, 4], [3, 3, 2, 0]))
        self.assertEqual(self.rows([0], filters=[(0, 1, 1)], backwards=1), ([3, 0, 0, 3], [2, 0, 0]))

    def test_looked_up_and_not_found(self):
        self.assertEqual(self.rows([0], filters=[(1, 1, 1)]), ([8, 8, 0, 5], [1, 1, 1, 3, 3]))
        self.assertEqual(self.rows([0], filters=[(1, 1, 1)], limit=3), ([3, 3, 0, 3], [1, 1, 1]))
        self.assertEqual(self.rows([0], filters=[(1, 1, 1)], limit=4), ([7, 7, 0, 4], [1, 1, 1, 3]))

    def test_touched_and_not_looked_up(self):
        self.assertEqual(self.rows([0], {"included": [1]}, filters=[(1, 1, 1)], limit=4)[0], [7, 0, 0, 4])
        wider = groups(3, (1, 0, 5, 2), (0, 1, 5, 3), (1, 2, 5, 1), (2, 1, 6, 2))
        call = asking([(1, 1, 1), (2, 6, 6)])
        self.assertEqual(last(wider, call, indexing([0], [1]), ROWS), [8, 5, 0, 2, 3, 3])
        self.assertEqual(last(wider, call, indexing([0, 1, 2]), ROWS), [8, 0, 0, 2, 3, 3])

    def test_not_free_all_are_touched_and_told_as_touched(self):
        for backwards, groups_found in ((0, [1, 1, 1, 0, 0, 2, 3, 3]), (1, [3, 3, 2, 0, 0, 1, 1, 1])):
            for limit in (0, 2):
                told = self.rows([0], order=[1], backwards=backwards, limit=limit)
                self.assertEqual(told, ([8, 8, 8, 8], groups_found))

    def test_not_free_only_found_ones_are_sorted(self):
        told = self.rows([0], {"included": [1]}, filters=[(1, 0, 1)], order=[1], limit=1)
        self.assertEqual(told, ([8, 0, 7, 7], [1, 1, 1, 0, 0, 3, 3]))

    def test_range_alone(self):
        self.assertEqual(self.rows([0], filters=[(0, 1, 2)]), ([5, 0, 0, 5], [0, 0, 2, 3, 3]))
        self.assertEqual(self.rows([0, 1], filters=[(0, 1, 1), (1, 2, 3)]), ([1, 0, 0, 1], [2]))

    def test_condition(self):
        told = self.rows([0], {"condition": (1, 1, 2)}, filters=[(1, 1, 2)], limit=5)
        self.assertEqual(told, ([5, 5, 0, 5], [1, 1, 1, 2, 3]))

    def test_nothing_in_the_range(self):
        self.assertEqual(self.rows([0], filters=[(0, 5, 6)]), ([0, 0, 0, 0], []))
        self.assertEqual(self.rows([0], filters=[(0, 5, 6)], order=[1], limit=2), ([0, 0, 0, 0], []))
        self.assertEqual(last(groups(1), asking(), indexing([0]), ROWS), [0, 0, 0, 0])

    def test_nothing_found(self):
        self.assertEqual(self.rows([0], filters=[(1, 7, 8)], order=[1]), ([8, 8, 0, 0], []))

    def test_as_many_as_work_and_trace_tell(self):
        call = asking([(1, 1, 2)], [0], 1, [], 4)
        told = ask(TABLE, call, indexing([0]), PLAN, WORK, trace(BY_INDEX), ROWS)
        self.assertEqual(told[4], [6, 6, 0, 30])
        self.assertEqual(told[5], [4, 3, 2, 2, 2, 2, 1, 1, 1, 0, 2, 2, 0, 1, 1, 1, 1])
        self.assertEqual(told[6], [6, 6, 0, 4, 3, 3, 2, 1])


if __name__ == "__main__":
    unittest.main()
