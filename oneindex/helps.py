"""Calls on one object, handed in and answered as one list of whole numbers."""

from oneindex.bench import Bench
from oneindex.refusals import Refusal

TABLE = 0
QUESTION = 1
INDEX = 2
PLAN = 3
WHY = 4
WORK = 5
WHOLE = 6
BEST = 7
TRACE = 8
ANSWER = 9
ROWS = 10
PREFIXES = 11


class UnknownCall(ValueError):
    """A call's number that the program doesn't know."""


def answers(calls):
    """Of each call how many numbers are answered, and these."""
    bench = Bench()
    told = []
    for call, numbers in split_calls(calls):
        answer = answer_or_refusal(bench, call, numbers)
        told.append(len(answer))
        told.extend(answer)
    return told


def split_calls(calls):
    """Each call's number, and the numbers that it's handed."""
    apart = []
    place = 0
    while place < len(calls):
        call = calls[place]
        first = place + 1
        behind = first
        if call in (TABLE, QUESTION, INDEX):
            first = place + 2
            behind = first + calls[place + 1]
        elif call in (TRACE, ANSWER):
            behind = first + 1
        apart.append((call, calls[first:behind]))
        place = behind
    return apart


def answer_or_refusal(bench, call, numbers):
    """What one call answers, or the number of its refusal alone."""
    try:
        return answer_one(bench, call, numbers)
    except Refusal as e:
        return [e.number]


def answer_one(bench, call, numbers):
    """What one call answers."""
    if call == TABLE:
        return bench.take_table(numbers)
    if call == QUESTION:
        return bench.take_question(numbers)
    if call == INDEX:
        return bench.take_index(numbers)
    if call == PLAN:
        return bench.plan()
    if call == WHY:
        return bench.why()
    if call == WORK:
        return bench.work()
    if call == WHOLE:
        return bench.whole()
    if call == BEST:
        return bench.best()
    if call == TRACE:
        return bench.trace(numbers[0])
    if call == ANSWER:
        return bench.answer(numbers[0])
    if call == ROWS:
        return bench.rows()
    if call == PREFIXES:
        return bench.prefixes()
    raise UnknownCall(f"no such call: {call}")
