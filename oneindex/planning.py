"""What an index can do for a question, before any entry is touched."""

from oneindex.parts import passes_all


def serves(index, question):
    """Whether the question's filters keep to the index's condition, if it has one."""
    if index.condition is None:
        return True
    kept = question.filters_on([index.condition.column])
    return any([each.keeps_to(index.condition) for each in kept])


def first_lacking(index, question):
    """The first needed column that the index hasn't, or -1."""
    own = index.own_columns()
    for column in question.needed_columns():
        if column not in own:
            return column
    return -1


def covers(index, question):
    """Whether all columns that the question needs are the index's own."""
    return first_lacking(index, question) == -1


def first_out_of_order(index, question):
    """The first column of the order at which the keys don't go on likewise, or -1."""
    keys_left = question.without_equal(index.key_columns)
    for place, column in enumerate(question.without_equal(question.order)):
        if place >= len(keys_left) or keys_left[place] != column:
            return column
    return -1


def is_free(index, question):
    """Whether the index's entries already lie in the question's order."""
    return first_out_of_order(index, question) == -1


def is_free_by_table(question):
    """Whether the table's rows already lie in the question's order."""
    return len(question.without_equal(question.order)) == 0


def count_equal_keys(index, question):
    """Of how many keys, from the first one on, there are equal filters."""
    equal_keys = 0
    for column in index.key_columns:
        if not question.is_equal_on(column):
            break
        equal_keys += 1
    return equal_keys


def next_key_filters(index, question):
    """The filter of the key behind those with equal filters: one, or none."""
    equal_keys = count_equal_keys(index, question)
    return question.filters_on(index.key_columns[equal_keys:equal_keys + 1])


def groups_held(table, index):
    """The groups whose rows are in the index, as they lie."""
    return [group for group in table.groups if index.holds(group)]


def groups_in_range(table, index, question):
    """The groups whose entries are in the range, as they lie."""
    equal_keys = count_equal_keys(index, question)
    bounds = question.filters_on(index.key_columns[:equal_keys + 1])
    return [group for group in groups_held(table, index) if passes_all(bounds, group)]
