"""What trace answers."""

import unittest

from tests.calling import BY_INDEX, BY_TABLE, asking, groups, indexing, last, trace

# By column 0 the groups are touched 1, 3, 0, 2; 1 and 3 are alike there.
TABLE = groups(3, (4, 1, 0, 10), (2, 1, 1, 5), (6, 2, 0, 100), (2, 0, 1, 7))


def flat(*steps):
    """Of each group its number, touched, looked up, found."""
    return [len(steps)] + [number for step in steps for number in step]


class ByIndex(unittest.TestCase):
    def traced(self, steps, keys, index=(), **parts):
        told = last(TABLE, asking(**parts), indexing(keys, **dict(index)), trace(BY_INDEX))
        self.assertEqual(told, flat(*steps))

    def test_free_and_covered(self):
        steps = [(1, 5, 0, 5), (3, 7, 0, 7), (0, 10, 0, 10), (2, 100, 0, 100)]
        for limit in (0, 122, 123):
            self.traced(steps, [0], order=[0], limit=limit)

    def test_last_group_in_part(self):
        self.traced([(1, 1, 0, 1)], [0], order=[0], limit=1)
        self.traced([(1, 5, 0, 5), (3, 1, 0, 1)], [0], order=[0], limit=6)
        self.traced([(1, 5, 0, 5), (3, 6, 0, 6)], [0], order=[0], limit=11)

    def test_limit_at_a_group_s_end(self):
        self.traced([(1, 5, 0, 5)], [0], order=[0], limit=5)
        self.traced([(1, 5, 0, 5), (3, 7, 0, 7)], [0], order=[0], limit=12)

    def test_looked_up_and_not_found(self):
        parts = {"filters": [(1, 1, 1)], "order": [0]}
        self.traced([(1, 5, 5, 5)], [0], limit=5, **parts)
        self.traced([(1, 5, 5, 5), (3, 7, 7, 0), (0, 1, 1, 1)], [0], limit=6, **parts)
        self.traced([(1, 5, 5, 5), (3, 7, 7, 0), (0, 10, 10, 10), (2, 100, 100, 0)], [0], limit=16, **parts)

    def test_neither_looked_up_nor_found(self):
        parts = {"filters": [(1, 1, 1)], "wanted": [2]}
        steps = [(1, 5, 5, 5), (3, 7, 0, 0), (0, 10, 10, 10), (2, 100, 0, 0)]
        self.traced(steps, [0], {"included": [1]}, **parts)
        self.traced(steps[:2] + [(0, 3, 3, 3)], [0], {"included": [1]}, limit=8, **parts)

    def test_covered_by_an_included_column(self):
        steps = [(1, 5, 0, 5), (3, 7, 0, 0), (0, 10, 0, 10), (2, 100, 0, 0)]
        self.traced(steps, [0], {"included": [1, 2]}, filters=[(1, 1, 1)], wanted=[2])

    def test_not_free_touches_all_in_the_range(self):
        steps = [(1, 5, 5, 5), (3, 7, 7, 0), (0, 10, 10, 10), (2, 100, 100, 0)]
        for limit in (0, 3, 15):
            self.traced(steps, [0], filters=[(1, 1, 1)], order=[2], limit=limit)
        self.traced(steps[:2], [0], filters=[(1, 1, 1), (0, 0, 3)], order=[2], limit=1)

    def test_range_alone(self):
        self.traced([(1, 5, 0, 5), (3, 7, 0, 7), (0, 10, 0, 10)], [0], filters=[(0, 2, 4)])
        self.traced([(0, 10, 0, 10)], [0], filters=[(0, 4, 4)])

    def test_backwards(self):
        self.traced([(2, 100, 0, 100), (0, 1, 0, 1)], [0], order=[0], backwards=1, limit=101)
        self.traced([(3, 7, 0, 7), (1, 5, 0, 5)], [0], filters=[(0, 2, 2)], backwards=1)

    def test_alike_in_the_first_key_go_by_the_second(self):
        self.traced([(3, 7, 0, 7), (1, 5, 0, 5)], [0, 1], filters=[(0, 2, 2)])
        self.traced([(1, 5, 0, 5), (3, 7, 0, 7)], [0, 1], filters=[(0, 2, 2)], backwards=1)
        self.traced([(1, 5, 0, 5), (3, 7, 0, 7)], [0, 2], filters=[(0, 2, 2)])

    def test_condition(self):
        steps = [(1, 5, 5, 5), (0, 10, 10, 10)]
        self.traced(steps, [0], {"condition": (1, 1, 1)}, filters=[(1, 1, 1)])

    def test_no_group_touched(self):
        self.traced([], [0], filters=[(0, 7, 8)])
        self.traced([], [0], filters=[(0, 7, 8)], order=[2], limit=1)
        self.assertEqual(last(groups(2), asking(), indexing([1]), trace(BY_INDEX)), [0])


class ByTable(unittest.TestCase):
    def traced(self, steps, **parts):
        self.assertEqual(last(TABLE, asking(**parts), trace(BY_TABLE)), flat(*steps))

    def test_as_they_lie(self):
        steps = [(0, 10, 0, 10), (1, 5, 0, 5), (2, 100, 0, 100), (3, 7, 0, 7)]
        for limit in (0, 122, 123):
            for backwards in (0, 1):
                self.traced(steps, limit=limit, backwards=backwards)

    def test_last_group_in_part(self):
        self.traced([(0, 1, 0, 1)], limit=1)
        self.traced([(0, 10, 0, 10), (1, 2, 0, 2)], limit=12)
        self.traced([(0, 10, 0, 10), (1, 2, 0, 2)], limit=12, backwards=1)

    def test_limit_at_a_group_s_end(self):
        self.traced([(0, 10, 0, 10)], limit=10)
        self.traced([(0, 10, 0, 10), (1, 5, 0, 5)], limit=15)

    def test_groups_none_of_whose_rows_is_found(self):
        steps = [(0, 10, 0, 0), (1, 5, 0, 5), (2, 100, 0, 0), (3, 7, 0, 7)]
        self.traced(steps, filters=[(2, 1, 1)])
        self.traced(steps[:3] + [(3, 1, 0, 1)], filters=[(2, 1, 1)], limit=6)
        self.traced(steps[:2], filters=[(2, 1, 1)], limit=5)
        self.traced(steps[:1] + [(1, 4, 0, 4)], filters=[(2, 1, 1)], order=[2], limit=4)

    def test_not_free_touches_all(self):
        steps = [(0, 10, 0, 0), (1, 5, 0, 5), (2, 100, 0, 0), (3, 7, 0, 7)]
        for limit in (0, 1, 5):
            self.traced(steps, filters=[(2, 1, 1)], order=[0], limit=limit)
            self.traced(steps, filters=[(2, 1, 1)], order=[2, 1], backwards=1, limit=limit)

    def test_nothing_is_looked_up_whatever_the_index(self):
        told = last(TABLE, asking([(1, 7, 7)], [], 0, [2]), indexing([0]), trace(BY_TABLE))
        self.assertEqual(told, flat((0, 10, 0, 0), (1, 5, 0, 0), (2, 100, 0, 0), (3, 7, 0, 0)))

    def test_no_group_touched(self):
        self.assertEqual(last(groups(3), asking([], [1], 1, [], 5), trace(BY_TABLE)), [0])


if __name__ == "__main__":
    unittest.main()
