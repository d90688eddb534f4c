"""What's done one way, reckoned group by group."""

LOOK_UP_COST = 4
SORT_COST = 3


class Step:
    """How many of a group's rows are touched, looked up and found."""

    def __init__(self, group, touched, looked_up, found):
        self.group = group
        self.touched = touched
        self.looked_up = looked_up
        self.found = found


class Work:
    """How many rows are touched, looked up and sorted in all, and what it costs."""

    def __init__(self, touched, looked_up, put_in_order, cost):
        self.touched = touched
        self.looked_up = looked_up
        self.put_in_order = put_in_order
        self.cost = cost


def steps_of(way):
    """A step for each group that is touched, the last one in part if the limit ends it."""
    found_at_end = way.found_at_end()
    missing = found_at_end
    steps = []
    for group in way.groups:
        is_found = way.finds(group)
        touched = group.size
        if found_at_end > 0 and is_found:
            touched = min(touched, missing)
            missing -= touched
        looked_up = touched if way.looks_up(group) else 0
        steps.append(Step(group, touched, looked_up, touched if is_found else 0))
        if found_at_end > 0 and missing == 0:
            break
    return steps


def work_of(way):
    """All steps of this way together."""
    steps = steps_of(way)
    touched = sum([step.touched for step in steps])
    looked_up = sum([step.looked_up for step in steps])
    put_in_order = 0 if way.free else sum([step.found for step in steps])
    cost = way.touch_cost * touched + LOOK_UP_COST * looked_up + SORT_COST * put_in_order
    return Work(touched, looked_up, put_in_order, cost)
