"""Many small tables, questions and indexes, compared with the work done row by row."""

import random
import unittest

from tests import plain
from tests.calling import NOT_SERVING, PLAN, WHY, WORK, ask, asking, groups, indexing

ROUNDS = 4000


def some_columns(dice, width, least=0):
    return dice.sample(range(width), dice.randint(least, width))


def some_filter(dice, column):
    low = dice.randint(0, 3)
    return (column, low, low if dice.random() < 0.5 else dice.randint(low, 3))


def some_table(dice, width):
    cells = {tuple(dice.randint(0, 3) for column in range(width)) for turn in range(dice.randint(0, 12))}
    shuffled = sorted(cells)
    dice.shuffle(shuffled)
    return [(*values, dice.randint(1, 4)) for values in shuffled]


def some_question(dice, width):
    return {
        "filters": [some_filter(dice, column) for column in some_columns(dice, width)],
        "order": some_columns(dice, width),
        "backwards": dice.randint(0, 1),
        "wanted": some_columns(dice, width),
        "limit": dice.choice([0, 0, 1, 2, 3, 5, 8, 13, 60]),
        "asked": dice.randint(0, 1000),
    }


def some_index(dice, width, asked):
    columns = some_columns(dice, width, 1)
    keys = dice.randint(1, len(columns))
    condition = None
    if dice.random() < 0.4:
        condition = some_filter(dice, dice.randrange(width))
        if asked["filters"] and dice.random() < 0.7:
            column, low, high = dice.choice(asked["filters"])
            condition = (column, dice.randint(0, low), dice.randint(high, 9))
    return {"keys": columns[:keys], "included": columns[keys:], "condition": condition}


class AgainstRows(unittest.TestCase):
    def compare(self, dice):
        width = dice.randint(1, 4)
        lying = some_table(dice, width)
        asked = some_question(dice, width)
        made = some_index(dice, width, asked)
        rows = [group[:-1] for group in lying for turn in range(group[-1])]
        held = len(plain.entries(rows, made))
        found = [row for row in rows if all(plain.passes(row, each) for each in asked["filters"])]
        serving = plain.does_serve(asked, made)
        expected = [
            [width, len(lying), len(rows)],
            [len(found)],
            [held, held * (1 + len(made["keys"]) + len(made["included"]))],
            plain.plan(rows, asked, made) if serving else NOT_SERVING,
            plain.why(asked, made),
            plain.work(rows, asked, made) if serving else NOT_SERVING,
        ]
        told = ask(groups(width, *lying), asking(**asked), indexing(**made), PLAN, WHY, WORK)
        self.assertEqual(told, expected, (lying, asked, made))
        return serving

    def test_many(self):
        dice = random.Random(2026)
        serving = [self.compare(dice) for turn in range(ROUNDS)]
        self.assertGreater(serving.count(True), ROUNDS // 2)
        self.assertGreater(serving.count(False), ROUNDS // 20)


if __name__ == "__main__":
    unittest.main()
