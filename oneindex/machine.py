"""What's done one way, row by row as a plain machine does it.

It doesn't draw on what's reckoned group by group, so that each of the two can be held against the other.
"""

MOST_ROWS = 300


class Run:
    """How many rows are touched, looked up and sorted; and the group of each row found, as they're touched."""

    def __init__(self, touched, looked_up, put_in_order, found_groups):
        self.touched = touched
        self.looked_up = looked_up
        self.put_in_order = put_in_order
        self.found_groups = found_groups


def run_of(way):
    """Touches one row after the other, until a limit ends it or none is left."""
    found_at_end = way.found_at_end()
    touched = 0
    looked_up = 0
    found_groups = []
    for group in group_of_each_row(way.groups):
        touched += 1
        if way.looks_up(group):
            looked_up += 1
        if way.finds(group):
            found_groups.append(group)
            if found_at_end > 0 and len(found_groups) == found_at_end:
                break
    put_in_order = 0 if way.free else len(found_groups)
    return Run(touched, looked_up, put_in_order, found_groups)


def group_of_each_row(groups):
    """Each group as often as it has rows."""
    each_row = []
    for group in groups:
        each_row.extend([group] * group.size)
    return each_row
