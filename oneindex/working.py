"""What's done by an index, group by group."""

from oneindex.parts import passes_all
from oneindex.planning import covers, groups_in_range, is_free

TOUCH_COST = 1
LOOK_UP_COST = 4
SORT_COST = 3


class Step:
    """How many of a group's rows are touched, looked up and found."""

    def __init__(self, touched, looked_up, found):
        self.touched = touched
        self.looked_up = looked_up
        self.found = found


def groups_as_touched(table, index, question):
    """The groups in the range, in the order in which their entries are touched."""
    groups = sorted(
        groups_in_range(table, index, question),
        key=lambda group: [group.cells[column] for column in index.key_columns],
    )
    if question.backwards:
        # Turned round as a whole: those alike in all keys are turned, too.
        groups.reverse()
    return groups


def steps_by_index(table, index, question):
    """A step for each group that is touched, the last one in part if the limit ends it."""
    ends_at_limit = question.limit > 0 and is_free(index, question)
    looks_up = not covers(index, question)
    own_filters = question.filters_on(index.own_columns())
    missing = question.limit
    steps = []
    for group in groups_as_touched(table, index, question):
        is_found = passes_all(question.filters, group)
        touched = group.size
        if ends_at_limit and is_found:
            touched = min(touched, missing)
            missing -= touched
        looked_up = touched if looks_up and passes_all(own_filters, group) else 0
        steps.append(Step(touched, looked_up, touched if is_found else 0))
        if ends_at_limit and missing == 0:
            break
    return steps


def work_by_index(table, index, question):
    """How many entries are touched, looked up, sorted, and what it costs."""
    steps = steps_by_index(table, index, question)
    touched = sum([step.touched for step in steps])
    looked_up = sum([step.looked_up for step in steps])
    in_order = 0 if is_free(index, question) else sum([step.found for step in steps])
    cost = TOUCH_COST * touched + LOOK_UP_COST * looked_up + SORT_COST * in_order
    return [touched, looked_up, in_order, cost]
