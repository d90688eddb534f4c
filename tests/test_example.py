"""The document's example, whole."""

import unittest

from oneindex.helps import answers
from tests.calling import BEST, BY_INDEX, BY_TABLE, PLAN, PREFIXES, ROWS, WHOLE, WHY, WORK
from tests.calling import answer, ask, index, question, table, trace

TABLE = table(2, 4, 1, 5, 3, 1, 7, 2, 2, 5, 4, 3, 9, 1)
QUESTION = question(1, 0, 1, 1, 1, 1, 0, 1, 1, 2, 5)
FIRST_INDEX = index(2, 0, 1, 0, 0)
SECOND_INDEX = index(1, 1, 0, 1, 0, 2, 3)


class Example(unittest.TestCase):
    def test_as_the_document_tells_it(self):
        told = ask(
            TABLE, QUESTION, FIRST_INDEX, PLAN, WORK, WHOLE, BEST, trace(BY_INDEX), answer(BY_TABLE), PREFIXES,
            SECOND_INDEX, WHY,
        )
        self.assertEqual(told[:3], [[2, 4, 10], [5], [10, 30]])
        self.assertEqual(told[3:7], [[1, 0, 1, 1, 5], [2, 0, 0, 2], [10, 5, 35], [1, 2, 35]])
        self.assertEqual(told[7:10], [[1, 0, 2, 0, 2], [1, 0, 2], [2, 40, 2]])
        self.assertEqual(told[10:], [[5, 10], [0, 0, -1]])

    def test_what_it_leaves_untold(self):
        told = ask(TABLE, QUESTION, FIRST_INDEX, WHY, trace(BY_TABLE), answer(BY_INDEX), ROWS)
        self.assertEqual(told[3], [-1, -1, -1])
        self.assertEqual(told[4], [4, 0, 3, 0, 3, 1, 2, 0, 2, 2, 4, 0, 0, 3, 1, 0, 0])
        self.assertEqual(told[5:], [[1, 0, 2], [2, 0, 0, 2, 0, 0]])

    def test_second_index(self):
        by_index = (PLAN, WORK, trace(BY_INDEX), answer(BY_INDEX), ROWS, PREFIXES)
        told = ask(TABLE, QUESTION, FIRST_INDEX, SECOND_INDEX, WHY, BEST, *by_index)
        self.assertEqual(told[3:], [[5, 10], [0, 0, -1], [0, 35, -1]] + [[-6]] * 6)

    def test_as_one_flat_list(self):
        told = answers(TABLE + QUESTION + FIRST_INDEX + PLAN + WORK + trace(BY_INDEX) + answer(BY_TABLE) + WHOLE)
        self.assertEqual(told[:20], [3, 2, 4, 10, 1, 5, 2, 10, 30, 5, 1, 0, 1, 1, 5, 4, 2, 0, 0, 2])
        self.assertEqual(told[20:], [5, 1, 0, 2, 0, 2, 3, 1, 0, 2, 3, 10, 5, 35])
        self.assertIs(type(told), list)
        self.assertEqual([number for number in told if type(number) is not int], [])


if __name__ == "__main__":
    unittest.main()
