"""The rows that a question is answered with, told by groups."""

from oneindex.working import steps_of


class Share:
    """How many rows of a group are answered."""

    def __init__(self, group, size):
        self.group = group
        self.size = size


def shares_answered(way):
    """The rows answered, in order: a share for each group that has some."""
    steps = steps_of(way)
    if not way.free:
        steps = steps_in_order(steps, way.question)
    return first_shares(steps, way.question.limit)


def steps_in_order(steps, question):
    """These steps put in the question's order; those alike there stay as they're touched."""
    if question.backwards:
        # Python's reverse turns the comparison, not the row: those alike stay one behind the other.
        return sorted(steps, key=lambda step: cells_in_order(step, question), reverse=True)
    return sorted(steps, key=lambda step: cells_in_order(step, question))


def cells_in_order(step, question):
    """The values by which the rows of this step are put in order."""
    return [step.group.cells[column] for column in question.order]


def first_shares(steps, limit):
    """Of the rows found the first ones up to the limit; all, if it's 0."""
    left = limit if limit > 0 else sum([step.found for step in steps])
    shares = []
    for step in steps:
        taken = min(step.found, left)
        if taken > 0:
            shares.append(Share(step.group, taken))
            left -= taken
    return shares
