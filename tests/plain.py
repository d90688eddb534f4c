"""What the document says, done row by row as a plain machine does it; shares nothing with the program."""


def passes(row, each):
    column, low, high = each
    return row[column] in range(low, high + 1)


def equal_columns(asked):
    return {column for column, low, high in asked["filters"] if low == high}


def needed(asked):
    return [each[0] for each in asked["filters"]] + asked["order"] + asked["wanted"]


def does_serve(asked, made):
    if made["condition"] is None:
        return True
    column, low, high = made["condition"]
    inside = set(range(low, high + 1))
    return any(each[0] == column and set(range(each[1], each[2] + 1)) <= inside for each in asked["filters"])


def entries(rows, made):
    return [row for row in rows if made["condition"] is None or passes(row, made["condition"])]


def range_columns(asked, made):
    columns = []
    for column in made["keys"]:
        columns.append(column)
        if column not in equal_columns(asked):
            break
    return columns


def in_range(rows, asked, made):
    columns = range_columns(asked, made)
    bounds = [each for each in asked["filters"] if each[0] in columns]
    return [row for row in entries(rows, made) if all(passes(row, each) for each in bounds)]


def plan(rows, asked, made):
    columns = range_columns(asked, made)
    leading = len([column for column in columns if column in equal_columns(asked)])
    following = made["keys"][leading:leading + 1]
    return [
        leading,
        len([each for each in asked["filters"] if each[0] in following]),
        int(set(needed(asked)) <= set(made["keys"] + made["included"])),
        int(out_of_order(asked, made) == -1),
        len(in_range(rows, asked, made)),
    ]


def out_of_order(asked, made):
    equal = equal_columns(asked)
    keys = [column for column in made["keys"] if column not in equal]
    for column in [column for column in asked["order"] if column not in equal]:
        if not keys or keys.pop(0) != column:
            return column
    return -1


def why(asked, made):
    own = made["keys"] + made["included"]
    lacking = [column for column in needed(asked) if column not in own]
    return [
        -1 if does_serve(asked, made) else made["condition"][0],
        lacking[0] if lacking else -1,
        out_of_order(asked, made),
    ]


def queue_by_index(rows, asked, made):
    queue = in_range(rows, asked, made)
    for key in reversed(made["keys"]):
        queue.sort(key=lambda row: row[key])
    return queue[::-1] if asked["backwards"] else queue


def is_found(row, asked):
    return all(passes(row, each) for each in asked["filters"])


def go(queue, asked, free, looks_up):
    """Of each row touched: the row, whether it's looked up, whether it's found."""
    events = []
    for row in queue:
        events.append((row, looks_up(row), is_found(row, asked)))
        if free and [found for row, looked_up, found in events].count(True) == asked["limit"] > 0:
            break
    return events


def events_by_index(rows, asked, made):
    own = made["keys"] + made["included"]
    covered = all(column in own for column in needed(asked))
    seen = [each for each in asked["filters"] if each[0] in own]
    return go(
        queue_by_index(rows, asked, made), asked, out_of_order(asked, made) == -1,
        lambda row: not covered and all(passes(row, each) for each in seen),
    )


def is_free_by_table(asked):
    return set(asked["order"]) <= equal_columns(asked)


def events_by_table(rows, asked):
    return go(rows, asked, is_free_by_table(asked), lambda row: False)


def reckon(events, free, touch_cost):
    touched = len(events)
    looked_up = len([row for row, looked_up, found in events if looked_up])
    to_sort = 0 if free else len(found_rows(events))
    return [touched, looked_up, to_sort, touch_cost * touched + 4 * looked_up + 3 * to_sort]


def work(rows, asked, made):
    return reckon(events_by_index(rows, asked, made), out_of_order(asked, made) == -1, 1)


def whole(rows, asked):
    touched, looked_up, to_sort, cost = reckon(events_by_table(rows, asked), is_free_by_table(asked), 2)
    return [touched, to_sort, cost]


def best(rows, asked, made):
    by_table = whole(rows, asked)[-1]
    if not does_serve(asked, made):
        return [0, by_table, -1]
    by_index = work(rows, asked, made)[-1]
    return [1, by_index, by_table] if by_index < by_table else [0, by_table, by_index]


def found_rows(events):
    return [row for row, looked_up, found in events if found]


def group_numbers(rows):
    """The number of each group, by its values."""
    return {row: number for number, row in enumerate(dict.fromkeys(rows))}


def trace(rows, events):
    numbers = group_numbers(rows)
    told = [0]
    for row, looked_up, found in events:
        if told[0] == 0 or told[-4] != numbers[row]:
            told[0] += 1
            told += [numbers[row], 0, 0, 0]
        told[-3] += 1
        told[-2] += looked_up
        told[-1] += found
    return told


def answer(rows, events, asked, free):
    numbers = group_numbers(rows)
    found = found_rows(events)
    if not free:
        sign = -1 if asked["backwards"] else 1
        found.sort(key=lambda row: [sign * row[column] for column in asked["order"]])
    if asked["limit"]:
        found = found[:asked["limit"]]
    kept = list(dict.fromkeys(found))
    return [len(kept)] + [number for row in kept for number in (numbers[row], found.count(row))]


def rows_one_by_one(rows, asked, made):
    events = events_by_index(rows, asked, made)
    numbers = group_numbers(rows)
    found = [numbers[row] for row in found_rows(events)]
    return work(rows, asked, made)[:3] + [len(found)] + found


def prefixes(rows, asked, made):
    told = [len(made["keys"])]
    for end in range(len(made["keys"])):
        told.append(work(rows, asked, {**made, "keys": made["keys"][:end + 1]})[-1])
    return told
