"""What answer answers."""

import unittest

from tests.calling import BY_INDEX, BY_TABLE, answer, ask, asking, groups, indexing, last

# By column 0 the groups are touched 1, 3, 0, 2; 1 and 3 are alike there.
TABLE = groups(3, (4, 1, 0, 10), (2, 1, 1, 5), (6, 2, 0, 100), (2, 0, 1, 7))


def flat(*shares):
    """Of each group its number, and how many of its rows are answered."""
    return [len(shares)] + [number for share in shares for number in share]


class ByIndex(unittest.TestCase):
    def answered(self, shares, keys, index=(), **parts):
        told = last(TABLE, asking(**parts), indexing(keys, **dict(index)), answer(BY_INDEX))
        self.assertEqual(told, flat(*shares))

    def test_free(self):
        for limit in (0, 122, 1000000):
            self.answered([(1, 5), (3, 7), (0, 10), (2, 100)], [0], order=[0], limit=limit)
            self.answered([(3, 7), (1, 5), (0, 10), (2, 100)], [0, 1], order=[0], limit=limit)

    def test_free_with_a_limit(self):
        self.answered([(1, 1)], [0], order=[0], limit=1)
        self.answered([(1, 5)], [0], order=[0], limit=5)
        self.answered([(1, 5), (3, 1)], [0], order=[0], limit=6)
        self.answered([(1, 5), (3, 7)], [0], order=[0], limit=12)

    def test_free_and_backwards(self):
        self.answered([(2, 100), (0, 10), (3, 7), (1, 5)], [0], order=[0], backwards=1)
        self.answered([(2, 100), (0, 10), (3, 1)], [0], order=[0], backwards=1, limit=111)

    def test_free_with_rows_that_are_not_found(self):
        self.answered([(1, 5), (0, 10)], [0], filters=[(1, 1, 1)], order=[0])
        self.answered([(1, 5), (0, 1)], [0], filters=[(1, 1, 1)], order=[0], limit=6)
        self.answered([(3, 7)], [0], filters=[(1, 0, 0)], order=[0], limit=7)

    def test_not_free(self):
        self.answered([(0, 10), (2, 100), (1, 5), (3, 7)], [0], order=[2])
        self.answered([(3, 7), (1, 5), (0, 10), (2, 100)], [0], order=[1])

    def test_not_free_with_a_limit(self):
        self.answered([(0, 4)], [0], order=[2], limit=4)
        self.answered([(0, 10)], [0], order=[2], limit=10)
        self.answered([(0, 10), (2, 100), (1, 1)], [0], order=[2], limit=111)
        self.answered([(0, 10), (2, 100), (1, 5), (3, 7)], [0], order=[2], limit=122)
        self.answered([(0, 10), (2, 100), (1, 5), (3, 7)], [0], order=[2], limit=1000000)

    def test_not_free_and_backwards(self):
        # Alike in column 2 they stay as they're touched, and that's backwards too.
        self.answered([(3, 7), (1, 5), (2, 100), (0, 10)], [0], order=[2], backwards=1)
        self.answered([(3, 7), (1, 2)], [0], order=[2], backwards=1, limit=9)

    def test_not_free_by_several_columns(self):
        self.answered([(0, 10), (2, 100), (3, 7), (1, 5)], [0], order=[2, 1])
        self.answered([(1, 5), (3, 7), (2, 100), (0, 10)], [0], order=[2, 1], backwards=1)
        self.answered([(3, 7), (0, 10), (1, 5), (2, 100)], [0], order=[1, 2])

    def test_not_free_with_rows_that_are_not_found(self):
        self.answered([(0, 10), (1, 5)], [0], filters=[(1, 1, 1)], order=[2])
        self.answered([(1, 5), (0, 3)], [0], filters=[(1, 1, 1)], order=[2], backwards=1, limit=8)

    def test_order_with_equal_filters(self):
        self.answered([(1, 5), (3, 7)], [0], filters=[(2, 1, 1)], order=[2])
        self.answered([(3, 7), (1, 5)], [0], filters=[(2, 1, 1)], order=[2], backwards=1)
        self.answered([(3, 7), (1, 5)], [0], filters=[(2, 1, 1)], order=[2, 1])
        self.answered([(1, 5), (3, 7)], [0], filters=[(2, 1, 1)], order=[1, 2], backwards=1)

    def test_condition(self):
        self.answered([(1, 5), (3, 3)], [0], {"condition": (2, 1, 9)}, filters=[(2, 1, 1)], limit=8)

    def test_no_row_found(self):
        for order in ([], [0], [2]):
            self.answered([], [0], filters=[(1, 7, 8)], order=order)
            self.answered([], [0], filters=[(0, 7, 8)], order=order, limit=3)
        self.assertEqual(last(groups(1), asking(), indexing([0]), answer(BY_INDEX)), [0])


class ByTable(unittest.TestCase):
    def answered(self, shares, **parts):
        self.assertEqual(last(TABLE, asking(**parts), answer(BY_TABLE)), flat(*shares))

    def test_free(self):
        for backwards in (0, 1):
            for limit in (0, 122, 1000000):
                self.answered([(0, 10), (1, 5), (2, 100), (3, 7)], backwards=backwards, limit=limit)
            self.answered([(0, 4)], backwards=backwards, limit=4)
            self.answered([(0, 10)], backwards=backwards, limit=10)
            self.answered([(0, 10), (1, 2)], backwards=backwards, limit=12)

    def test_free_with_rows_that_are_not_found(self):
        self.answered([(1, 5), (3, 7)], filters=[(2, 1, 1)])
        self.answered([(1, 5), (3, 1)], filters=[(2, 1, 1)], limit=6)
        self.answered([(1, 5)], filters=[(2, 1, 1)], limit=5)

    def test_not_free(self):
        self.answered([(1, 5), (3, 7), (0, 10), (2, 100)], order=[0])
        self.answered([(0, 10), (2, 100), (1, 5), (3, 7)], order=[2])
        self.answered([(0, 10), (2, 100), (3, 7), (1, 5)], order=[2, 1])

    def test_not_free_and_backwards(self):
        # Alike in the order's columns they stay as they lie.
        self.answered([(2, 100), (0, 10), (1, 5), (3, 7)], order=[0], backwards=1)
        self.answered([(1, 5), (3, 7), (0, 10), (2, 100)], order=[2], backwards=1)
        self.answered([(1, 5), (3, 7), (2, 100), (0, 10)], order=[2, 1], backwards=1)

    def test_not_free_with_a_limit(self):
        self.answered([(1, 5), (0, 2)], filters=[(1, 1, 1)], order=[0], limit=7)
        self.answered([(1, 5)], filters=[(1, 1, 1)], order=[0], limit=5)
        self.answered([(1, 5), (3, 4)], order=[2], backwards=1, limit=9)
        self.answered([(1, 5), (3, 7), (0, 10), (2, 100)], order=[0], limit=123)

    def test_order_with_equal_filters(self):
        self.answered([(1, 5), (3, 7)], filters=[(2, 1, 1)], order=[2], backwards=1)
        self.answered([(1, 5), (3, 1)], filters=[(2, 1, 1)], order=[2], backwards=1, limit=6)
        self.answered([(0, 10), (2, 100)], filters=[(2, 0, 0)], order=[2, 0])
        self.answered([(2, 100), (0, 10)], filters=[(2, 0, 0)], order=[0, 2], backwards=1)

    def test_no_row_found(self):
        for order in ([], [0], [2]):
            self.answered([], filters=[(1, 7, 8)], order=order)
            self.answered([], filters=[(1, 7, 8)], order=order, limit=3)
        self.assertEqual(last(groups(1), asking(), answer(BY_TABLE)), [0])


class BothWays(unittest.TestCase):
    def test_alike_in_the_order_the_way_tells(self):
        told = ask(TABLE, asking([(0, 2, 6)], [2], 1), indexing([0]), answer(BY_TABLE), answer(BY_INDEX))
        self.assertEqual(told[3], flat((1, 5), (3, 7), (0, 10), (2, 100)))
        self.assertEqual(told[4], flat((3, 7), (1, 5), (2, 100), (0, 10)))

    def test_largest_table(self):
        rows = [(number // 10, number % 10, 1000000) for number in range(12)]
        told = ask(groups(2, *rows), asking([], [1], 1), indexing([0]), answer(BY_TABLE), answer(BY_INDEX))
        put = [9, 8, 7, 6, 5, 4, 3, 2]
        self.assertEqual(told[3], flat(*[(number, 1000000) for number in put + [1, 11, 0, 10]]))
        self.assertEqual(told[4], flat(*[(number, 1000000) for number in put + [11, 1, 10, 0]]))


if __name__ == "__main__":
    unittest.main()
