"""What the document says, done row by row as a plain machine does it; shares nothing with the program."""


def passes(row, each):
    column, low, high = each
    return row[column] in range(low, high + 1)


def equal_columns(asked):
    return {column for column, low, high in asked["filters"] if low == high}


def needed(asked):
    return [each[0] for each in asked["filters"]] + asked["order"] + asked["wanted"]


def does_serve(asked, made):
    if made["condition"] is None:
        return True
    column, low, high = made["condition"]
    inside = set(range(low, high + 1))
    return any(each[0] == column and set(range(each[1], each[2] + 1)) <= inside for each in asked["filters"])


def entries(rows, made):
    return [row for row in rows if made["condition"] is None or passes(row, made["condition"])]


def range_columns(asked, made):
    columns = []
    for column in made["keys"]:
        columns.append(column)
        if column not in equal_columns(asked):
            break
    return columns


def in_range(rows, asked, made):
    columns = range_columns(asked, made)
    bounds = [each for each in asked["filters"] if each[0] in columns]
    return [row for row in entries(rows, made) if all(passes(row, each) for each in bounds)]


def plan(rows, asked, made):
    columns = range_columns(asked, made)
    leading = len([column for column in columns if column in equal_columns(asked)])
    following = made["keys"][leading:leading + 1]
    return [
        leading,
        len([each for each in asked["filters"] if each[0] in following]),
        int(set(needed(asked)) <= set(made["keys"] + made["included"])),
        int(out_of_order(asked, made) == -1),
        len(in_range(rows, asked, made)),
    ]


def out_of_order(asked, made):
    equal = equal_columns(asked)
    keys = [column for column in made["keys"] if column not in equal]
    for column in [column for column in asked["order"] if column not in equal]:
        if not keys or keys.pop(0) != column:
            return column
    return -1


def why(asked, made):
    own = made["keys"] + made["included"]
    lacking = [column for column in needed(asked) if column not in own]
    return [
        -1 if does_serve(asked, made) else made["condition"][0],
        lacking[0] if lacking else -1,
        out_of_order(asked, made),
    ]


def work(rows, asked, made):
    own = made["keys"] + made["included"]
    covered = all(column in own for column in needed(asked))
    free = out_of_order(asked, made) == -1
    queue = in_range(rows, asked, made)
    for key in reversed(made["keys"]):
        queue.sort(key=lambda row: row[key])
    if asked["backwards"]:
        queue = queue[::-1]
    touched = looked_up = found = 0
    for row in queue:
        touched += 1
        if not covered and all(passes(row, each) for each in asked["filters"] if each[0] in own):
            looked_up += 1
        if all(passes(row, each) for each in asked["filters"]):
            found += 1
            if free and found == asked["limit"]:
                break
    to_sort = 0 if free else found
    return [touched, looked_up, to_sort, touched + 4 * looked_up + 3 * to_sort]
