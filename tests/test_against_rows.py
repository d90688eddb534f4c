"""Many small tables, questions and indexes, compared with the work done row by row."""

import random
import unittest

from tests import plain
from tests.calling import BEST, BY_INDEX, BY_TABLE, NOT_SERVING, PLAN, PREFIXES, ROWS, TOO_MANY, WHOLE, WHY, WORK
from tests.calling import answer, ask, asking, groups, indexing, trace

ROUNDS = 4000


def some_columns(dice, width, least=0):
    return dice.sample(range(width), dice.randint(least, width))


def some_filter(dice, column):
    low = dice.randint(0, 3)
    return (column, low, low if dice.random() < 0.5 else dice.randint(low, 3))


def some_table(dice, width, most):
    cells = {tuple(dice.randint(0, 3) for column in range(width)) for turn in range(dice.randint(0, 12))}
    shuffled = sorted(cells)
    dice.shuffle(shuffled)
    return [(*values, dice.randint(1, most)) for values in shuffled]


def some_question(dice, width):
    return {
        "filters": [some_filter(dice, column) for column in some_columns(dice, width)],
        "order": some_columns(dice, width),
        "backwards": dice.randint(0, 1),
        "wanted": some_columns(dice, width),
        "limit": dice.choice([0, 0, 1, 2, 3, 5, 8, 13, 60]),
        "asked": dice.randint(0, 1000),
    }


def some_index(dice, width, asked):
    columns = some_columns(dice, width, 1)
    keys = dice.randint(1, len(columns))
    condition = None
    if dice.random() < 0.4:
        condition = some_filter(dice, dice.randrange(width))
        if asked["filters"] and dice.random() < 0.7:
            column, low, high = dice.choice(asked["filters"])
            condition = (column, dice.randint(0, low), dice.randint(high, 9))
    return {"keys": columns[:keys], "included": columns[keys:], "condition": condition}


def expect(rows, asked, made):
    """What plan, why and all calls behind them answer."""
    by_table = plain.events_by_table(rows, asked)
    whole_answer = plain.answer(rows, by_table, asked, plain.is_free_by_table(asked))
    told = {
        "why": plain.why(asked, made),
        "whole": plain.whole(rows, asked),
        "best": plain.best(rows, asked, made),
        "trace by table": plain.trace(rows, by_table),
        "answer by table": whole_answer,
    }
    if not plain.does_serve(asked, made):
        by_index = ("plan", "work", "trace by index", "answer by index", "rows", "prefixes")
        return {**told, **{call: NOT_SERVING for call in by_index}}
    events = plain.events_by_index(rows, asked, made)
    too_many = len(plain.in_range(rows, asked, made)) > 300
    return {
        **told,
        "plan": plain.plan(rows, asked, made),
        "work": plain.work(rows, asked, made),
        "trace by index": plain.trace(rows, events),
        "answer by index": plain.answer(rows, events, asked, plain.out_of_order(asked, made) == -1),
        "rows": TOO_MANY if too_many else plain.rows_one_by_one(rows, asked, made),
        "prefixes": plain.prefixes(rows, asked, made),
    }


CALLS = {
    "plan": PLAN,
    "why": WHY,
    "work": WORK,
    "whole": WHOLE,
    "best": BEST,
    "trace by table": trace(BY_TABLE),
    "trace by index": trace(BY_INDEX),
    "answer by table": answer(BY_TABLE),
    "answer by index": answer(BY_INDEX),
    "rows": ROWS,
    "prefixes": PREFIXES,
}


class AgainstRows(unittest.TestCase):
    def compare(self, dice, most=4):
        width = dice.randint(1, 4)
        lying = some_table(dice, width, most)
        asked = some_question(dice, width)
        made = some_index(dice, width, asked)
        rows = [group[:-1] for group in lying for turn in range(group[-1])]
        held = len(plain.entries(rows, made))
        taken = [
            [width, len(lying), len(rows)],
            [len([row for row in rows if plain.is_found(row, asked)])],
            [held, held * (1 + len(made["keys"]) + len(made["included"]))],
        ]
        told = ask(groups(width, *lying), asking(**asked), indexing(**made), *CALLS.values())
        self.assertEqual(told[:3], taken, (lying, asked, made))
        self.assertEqual(dict(zip(CALLS, told[3:])), expect(rows, asked, made), (lying, asked, made))
        return dict(zip(CALLS, told[3:]))

    def test_many(self):
        dice = random.Random(2026)
        told = [self.compare(dice) for turn in range(ROUNDS)]
        serving = [each["plan"] != NOT_SERVING for each in told]
        self.assertGreater(serving.count(True), ROUNDS // 2)
        self.assertGreater(serving.count(False), ROUNDS // 20)
        self.assertGreater([each["best"][0] for each in told].count(1), ROUNDS // 20)

    def test_some_with_more_rows(self):
        dice = random.Random(2027)
        told = [self.compare(dice, 60) for turn in range(ROUNDS // 20)]
        too_many = [each["rows"] == TOO_MANY for each in told]
        self.assertGreater(too_many.count(True), 5)
        self.assertGreater(too_many.count(False), 5)


if __name__ == "__main__":
    unittest.main()
