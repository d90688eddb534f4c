"""Promises 2 to 5 for whole, best, trace, answer, rows and prefixes."""

import unittest

from tests.calling import BEST, BY_INDEX, BY_TABLE, FAR, NO_INDEX, NO_QUESTION, NO_TABLE, NO_WAY, NOT_SERVING
from tests.calling import NOT_WHOLE, PLAN, PREFIXES, ROWS, TOO_MANY, WHOLE, WHY, WORK
from tests.calling import answer, ask, asking, groups, index, indexing, last, question, table, trace

TABLE = groups(3, (4, 1, 0, 10), (2, 1, 1, 5), (6, 2, 0, 100), (2, 0, 1, 7))
QUESTION = asking([(1, 1, 1)], [0], 0, [], 6)
SERVING = indexing([0], [1], (1, 0, 1))
NOT_OF_USE = indexing([0], [1], (1, 2, 2))

OTHER_WAYS = (-1, 2, 3, 10, -8, FAR, -FAR)
OF_THE_TABLE = (WHOLE, trace(BY_TABLE), answer(BY_TABLE))
OF_THE_INDEX = (BEST, trace(BY_INDEX), answer(BY_INDEX), ROWS, PREFIXES)
ALL = OF_THE_TABLE + OF_THE_INDEX


class NoTable(unittest.TestCase):
    def test_at_the_beginning(self):
        self.assertEqual(ask(*ALL), [NO_TABLE] * 8)

    def test_behind_what_was_refused(self):
        self.assertEqual(ask(table(1, 0, 0), QUESTION, SERVING, *ALL), [NOT_WHOLE] + [NO_TABLE] * 10)

    def test_looked_at_ahead_of_the_way(self):
        for way in OTHER_WAYS:
            self.assertEqual(ask(trace(way), answer(way)), [NO_TABLE] * 2, way)


class OtherWays(unittest.TestCase):
    def refuse(self, *ready):
        calls = [call for way in OTHER_WAYS for call in (trace(way), answer(way))]
        self.assertEqual(ask(*ready, *calls)[len(ready):], [NO_WAY] * len(calls))

    def test_with_all_there(self):
        self.refuse(TABLE, QUESTION, SERVING)

    def test_looked_at_ahead_of_no_question(self):
        self.refuse(TABLE)
        self.refuse(TABLE, SERVING)

    def test_looked_at_ahead_of_no_index(self):
        self.refuse(TABLE, QUESTION)

    def test_looked_at_ahead_of_an_index_that_does_not_serve(self):
        self.refuse(TABLE, QUESTION, NOT_OF_USE)


class NoQuestion(unittest.TestCase):
    def test_neither_question_nor_index(self):
        self.assertEqual(ask(TABLE, *ALL)[1:], [NO_QUESTION] * 8)

    def test_index_alone(self):
        self.assertEqual(ask(TABLE, SERVING, *ALL)[2:], [NO_QUESTION] * 8)
        self.assertEqual(ask(TABLE, NOT_OF_USE, *ALL)[2:], [NO_QUESTION] * 8)

    def test_refused_question_is_none(self):
        self.assertEqual(ask(TABLE, question(1), SERVING, *ALL)[3:], [NO_QUESTION] * 8)


class NoIndex(unittest.TestCase):
    def test_by_the_index(self):
        self.assertEqual(ask(TABLE, QUESTION, *OF_THE_INDEX)[2:], [NO_INDEX] * 5)

    def test_refused_index_is_none(self):
        self.assertEqual(ask(TABLE, QUESTION, index(1), *OF_THE_INDEX)[3:], [NO_INDEX] * 5)

    def test_whole_table_needs_none(self):
        told = ask(TABLE, QUESTION, *OF_THE_TABLE)[2:]
        self.assertEqual(told[0], [122, 15, 289])
        self.assertEqual(told[1], [4, 0, 10, 0, 10, 1, 5, 0, 5, 2, 100, 0, 0, 3, 7, 0, 0])
        self.assertEqual(told[2], [2, 1, 5, 0, 1])
        self.assertEqual(ask(TABLE, QUESTION, SERVING, *OF_THE_TABLE)[3:], told)


class NotServing(unittest.TestCase):
    def test_by_the_index(self):
        told = ask(TABLE, QUESTION, NOT_OF_USE, *OF_THE_INDEX)
        self.assertEqual(told[3:], [[0, 289, -1]] + [NOT_SERVING] * 4)

    def test_whole_table_asks_nothing_of_it(self):
        told = ask(TABLE, QUESTION, *OF_THE_TABLE, NOT_OF_USE, *OF_THE_TABLE)
        self.assertEqual(told[6:], told[2:5])

    def test_table_without_groups(self):
        told = ask(groups(2), asking(), indexing([0], [], (1, 0, 9)), *OF_THE_INDEX)
        self.assertEqual(told[3:], [[0, 0, -1]] + [NOT_SERVING] * 4)


class TooManyEntries(unittest.TestCase):
    def rows(self, size, call, *calls):
        return last(groups(2, (3, 1, 1000), (4, 0, size - 1), (4, 1, 1)), call, *calls, ROWS)

    def test_edge(self):
        told = self.rows(300, asking([(0, 4, 4)], [1]), indexing([0, 1]))
        self.assertEqual(told, [300, 0, 0, 300] + [1] * 299 + [2])
        self.assertEqual(self.rows(301, asking([(0, 4, 4)], [1]), indexing([0, 1])), TOO_MANY)
        self.assertEqual(self.rows(302, asking([(0, 4, 4)], [1]), indexing([0, 1])), TOO_MANY)

    def test_limit_does_not_help(self):
        call = asking([(0, 4, 4)], [], 0, [], 1)
        self.assertEqual(self.rows(300, call, indexing([0])), [1, 0, 0, 1, 1])
        self.assertEqual(self.rows(301, call, indexing([0])), TOO_MANY)

    def test_rows_found_do_not_count(self):
        call = asking([(0, 4, 4), (1, 1, 1)])
        self.assertEqual(self.rows(300, call, indexing([0])), [300, 300, 0, 1, 2])
        self.assertEqual(self.rows(301, call, indexing([0])), TOO_MANY)
        self.assertEqual(self.rows(301, call, indexing([0, 1])), [1, 0, 0, 1, 2])

    def test_rows_out_of_the_index_do_not_count(self):
        call = asking([(0, 4, 4)])
        self.assertEqual(self.rows(300, call, indexing([1], [], (0, 4, 9)))[:4], [300, 300, 0, 300])
        self.assertEqual(self.rows(301, call, indexing([1], [], (0, 4, 9))), TOO_MANY)
        self.assertEqual(self.rows(300, call, indexing([1], [], (0, 3, 9))), TOO_MANY)

    def test_not_serving_is_looked_at_first(self):
        self.assertEqual(self.rows(301, asking([(0, 4, 4)]), indexing([0], [], (0, 5, 5))), NOT_SERVING)
        self.assertEqual(self.rows(301, asking([(0, 4, 4)])), NO_INDEX)

    def test_other_calls_do_not_mind(self):
        told = ask(groups(1, (4, 301)), asking(), indexing([0]), PLAN, WORK, trace(BY_INDEX), PREFIXES, BEST)
        self.assertEqual(told[3:], [[0, 0, 1, 1, 301], [301, 0, 0, 301], [1, 0, 301, 0, 301], [1, 301], [1, 301, 602]])


class RefusalsChangeNothing(unittest.TestCase):
    looks = (PLAN, WHY, WORK) + ALL

    def same_behind(self, ready, refused):
        told = ask(*ready, *self.looks, *refused, *self.looks)
        first = told[len(ready):len(ready) + len(self.looks)]
        between = told[len(ready) + len(self.looks):-len(self.looks)]
        self.assertEqual(told[-len(self.looks):], first)
        self.assertEqual([each for each in between if len(each) != 1 or each[0] >= 0], [])

    def test_lists_and_ways(self):
        ready = (TABLE, QUESTION, SERVING)
        refused = [table(1, 0, 0), question(1), index(0, 0, 0)]
        refused += [trace(way) for way in OTHER_WAYS] + [answer(way) for way in OTHER_WAYS]
        self.same_behind(ready, refused)

    def test_calls_by_an_index_that_does_not_serve(self):
        self.same_behind((TABLE, QUESTION, NOT_OF_USE), [trace(BY_INDEX), answer(BY_INDEX), ROWS, PREFIXES])

    def test_calls_without_an_index(self):
        self.same_behind((TABLE, QUESTION), OF_THE_INDEX)

    def test_too_many_entries(self):
        self.same_behind((groups(1, (4, 301)), asking([], [0], 1, [], 5), indexing([0])), [ROWS])

    def test_index_serves_the_next_question(self):
        told = ask(TABLE, QUESTION, NOT_OF_USE, ROWS, PREFIXES, asking([(1, 2, 2)]), PREFIXES, BEST)
        self.assertEqual(told[3:], [NOT_SERVING, NOT_SERVING, [100], [1, 100], [1, 100, 244]])


class NewTable(unittest.TestCase):
    def test_no_question_then_no_index(self):
        told = ask(TABLE, QUESTION, SERVING, *ALL, TABLE, *ALL, QUESTION, *ALL)
        self.assertEqual([each for each in told[3:11] if each[0] < 0], [])
        self.assertEqual(told[12:20], [NO_QUESTION] * 8)
        self.assertEqual(told[21:24], told[3:6])
        self.assertEqual(told[24:], [NO_INDEX] * 5)

    def test_index_without_the_question(self):
        told = ask(TABLE, QUESTION, SERVING, TABLE, SERVING, *ALL)
        self.assertEqual(told[5:], [NO_QUESTION] * 8)


if __name__ == "__main__":
    unittest.main()
