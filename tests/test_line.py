"""A line of calls as a whole: many calls, 80 of them, what's handed in, and what's kept."""

import unittest

from oneindex.helps import answers
from tests.calling import BEST, BY_INDEX, BY_TABLE, FAR, PLAN, PREFIXES, ROWS, WHOLE, WHY, WORK
from tests.calling import answer, ask, asking, groups, index, indexing, question, table, trace

TABLE = groups(2, (1, 0, 2), (0, 1, 3), (1, 2, 1), (2, 1, 2))
LOOKS = (
    PLAN, WHY, WORK, WHOLE, BEST, trace(BY_TABLE), trace(BY_INDEX), answer(BY_TABLE), answer(BY_INDEX), ROWS, PREFIXES,
)
TOLD = [
    [0, 0, 1, 1, 8], [-1, -1, -1], [4, 0, 0, 4], [8, 8, 40], [1, 4, 40],
    [4, 0, 2, 0, 2, 1, 3, 0, 3, 2, 1, 0, 1, 3, 2, 0, 2], [2, 1, 3, 0, 3, 0, 1, 0, 1],
    [2, 1, 3, 0, 1], [2, 1, 3, 0, 1], [4, 0, 0, 4, 1, 1, 1, 0], [1, 4],
]


def flat(*calls):
    return [number for call in calls for number in call]


class Line(unittest.TestCase):
    ready = (TABLE, asking([], [0], 0, [], 4), indexing([0]))

    def test_eighty_calls(self):
        told = ask(*self.ready, *LOOKS * 7)
        self.assertEqual(len(told), 80)
        self.assertEqual(told[3:], TOLD * 7)

    def test_eighty_calls_with_the_longest_answers(self):
        told = ask(groups(1, (4, 300)), asking(), indexing([0]), *[ROWS] * 77)
        self.assertEqual(told[3:], [[300, 0, 0, 300] + [0] * 300] * 77)

    def test_eighty_refusals(self):
        self.assertEqual(ask(*[trace(FAR), answer(-FAR), WHOLE, ROWS] * 20), [[-8]] * 80)

    def test_longest_lists(self):
        full = [FAR] * 80
        told = ask(table(*full), TABLE, question(*full[:40]), index(*full[:20]), trace(FAR))
        self.assertEqual(told, [[-1], [2, 4, 8], [-1], [-1], [-5]])

    def test_ways_are_not_taken_for_calls(self):
        told = ask(*self.ready, trace(0), trace(1), trace(2), answer(3), answer(10), answer(1), trace(0), PLAN)
        self.assertEqual(told[3:], [TOLD[5], TOLD[6], [-5], [-5], [-5], TOLD[8], TOLD[5], TOLD[0]])

    def test_tables_questions_and_indexes_by_turns(self):
        calls = []
        expected = []
        for limit in range(1, 9):
            calls += [TABLE, indexing([0]), asking([], [0], 0, [], limit), WORK, indexing([1], [0]), WORK, WHOLE]
            expected += [[2, 4, 8], [8, 16], [8], [limit, 0, 0, limit], [8, 24], [8, 0, 8, 32], [8, 8, 40]]
        self.assertEqual(ask(*calls), expected)

    def test_list_handed_in_stays_as_it_was(self):
        calls = flat(*self.ready, *LOOKS, trace(7), table(1), *LOOKS)
        before = list(calls)
        told = answers(calls)
        self.assertEqual(calls, before)
        self.assertIsNot(told, calls)

    def test_same_list_twice(self):
        calls = flat(*self.ready, *LOOKS)
        first = answers(calls)
        self.assertEqual(answers(calls), first)
        self.assertEqual(first, flat([3, 2, 4, 8, 1, 8, 2, 8, 16], *[[len(each)] + each for each in TOLD]))

    def test_nothing_is_kept_from_one_time_to_the_next(self):
        answers(flat(*self.ready, *LOOKS))
        self.assertEqual(ask(*LOOKS), [[-8]] * 11)
        self.assertEqual(ask(TABLE, *LOOKS)[1:], [[-9]] * 11)

    def test_one_answer_given_back_is_not_another_s(self):
        calls = flat(*self.ready, trace(BY_INDEX), answer(BY_INDEX))
        first = answers(calls)
        kept = list(first)
        first.clear()
        self.assertEqual(answers(calls), kept)

    def test_whole_numbers_and_no_truth_values(self):
        told = answers(flat(*self.ready, *LOOKS, trace(7)))
        self.assertEqual([number for number in told if type(number) is not int], [])


if __name__ == "__main__":
    unittest.main()
