"""The document's example, as far as the calls that there are go."""

import unittest

from oneindex.helps import answers
from tests.calling import PLAN, WHY, WORK, ask, index, question, table

TABLE = table(2, 4, 1, 5, 3, 1, 7, 2, 2, 5, 4, 3, 9, 1)
QUESTION = question(1, 0, 1, 1, 1, 1, 0, 1, 1, 2, 5)
FIRST_INDEX = index(2, 0, 1, 0, 0)
SECOND_INDEX = index(1, 1, 0, 1, 0, 2, 3)


class Example(unittest.TestCase):
    def test_first_index(self):
        told = ask(TABLE, QUESTION, FIRST_INDEX, PLAN, WORK, WHY)
        self.assertEqual(told, [[2, 4, 10], [5], [10, 30], [1, 0, 1, 1, 5], [2, 0, 0, 2], [-1, -1, -1]])

    def test_second_index(self):
        told = ask(TABLE, QUESTION, FIRST_INDEX, SECOND_INDEX, WHY, PLAN, WORK)
        self.assertEqual(told[3:], [[5, 10], [0, 0, -1], [-6], [-6]])

    def test_as_one_flat_list(self):
        told = answers(TABLE + QUESTION + FIRST_INDEX + PLAN + WORK)
        self.assertEqual(told, [3, 2, 4, 10, 1, 5, 2, 10, 30, 5, 1, 0, 1, 1, 5, 4, 2, 0, 0, 2])
        self.assertIs(type(told), list)
        self.assertEqual([number for number in told if type(number) is not int], [])


if __name__ == "__main__":
    unittest.main()
