"""Calls on one object, handed in and answered as one list of whole numbers."""

from oneindex.bench import Bench
from oneindex.refusals import Refusal

TABLE = 0
QUESTION = 1
INDEX = 2
PLAN = 3
WHY = 4
WORK = 5


class UnknownCall(ValueError):
    """A call's number that the program doesn't know."""


def answers(calls):
    """Of each call how many numbers are answered, and these."""
    bench = Bench()
    told = []
    place = 0
    while place < len(calls):
        call = calls[place]
        numbers = []
        place += 1
        if call in (TABLE, QUESTION, INDEX):
            behind = place + 1 + calls[place]
            numbers = calls[place + 1:behind]
            place = behind
        answer = answer_or_refusal(bench, call, numbers)
        told.append(len(answer))
        told.extend(answer)
    return told


def answer_or_refusal(bench, call, numbers):
    """What one call answers, or the number of its refusal alone."""
    try:
        return answer_one(bench, call, numbers)
    except Refusal as e:
        return [e.number]


def answer_one(bench, call, numbers):
    """What one call answers."""
    if call == TABLE:
        return bench.take_table(numbers)
    if call == QUESTION:
        return bench.take_question(numbers)
    if call == INDEX:
        return bench.take_index(numbers)
    if call == PLAN:
        return bench.plan()
    if call == WHY:
        return bench.why()
    if call == WORK:
        return bench.work()
    raise UnknownCall(f"no such call: {call}")
