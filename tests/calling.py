"""Builds lists of calls for the tests, and takes answers apart."""

from oneindex.helps import answers

PLAN = [3]
WHY = [4]
WORK = [5]
WHOLE = [6]
BEST = [7]
ROWS = [10]
PREFIXES = [11]

BY_TABLE = 0
BY_INDEX = 1

NOT_WHOLE = [-1]
TOO_MANY = [-4]
NO_WAY = [-5]
NOT_SERVING = [-6]
NO_INDEX = [-7]
NO_TABLE = [-8]
NO_QUESTION = [-9]

FAR = 10 ** 18


def table(*numbers):
    return [0, len(numbers), *numbers]


def question(*numbers):
    return [1, len(numbers), *numbers]


def index(*numbers):
    return [2, len(numbers), *numbers]


def groups(width, *rows):
    """A table call: of each group its values and its rows' number."""
    return table(width, len(rows), *[number for row in rows for number in row])


def asking(filters=(), order=(), backwards=0, wanted=(), limit=0, asked=1):
    """A question call."""
    flat = [number for each in filters for number in each]
    return question(len(filters), *flat, len(order), *order, backwards, len(wanted), *wanted, limit, asked)


def indexing(keys, included=(), condition=None):
    """An index call."""
    behind = [0] if condition is None else [1, *condition]
    return index(len(keys), *keys, len(included), *included, *behind)


def trace(way):
    return [8, way]


def answer(way):
    return [9, way]


def ask(*calls):
    """Each call's answer as a list of its own."""
    told = answers([number for call in calls for number in call])
    split = []
    place = 0
    while place < len(told):
        count = told[place]
        split.append(told[place + 1:place + 1 + count])
        place += 1 + count
    if place != len(told) or len(split) != len(calls):
        raise AssertionError(f"{len(calls)} calls, answered {told}")
    return split


def last(*calls):
    """The last call's answer."""
    return ask(*calls)[-1]
