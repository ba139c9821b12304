"""The content of a cell: as set tells it, by what is there, and as a cell has it, by numbers that stay."""

AREA = 2
POINTER = 3

# What is shown where nothing is there any more of what the content tells.
LOST = 4

# By the form, a content's first number: 0 nothing, 1 a number, 2 an area, 3 a cell with a and k.
LENGTHS = {0: 1, 1: 2, 2: 5, 3: 5}

# Where rows stand in a content of each form; behind each row stands its column.
ROWS_AT = {0: (), 1: (), 2: (1, 3), 3: (2,)}


def held(content, rows, columns):
    """What a cell has by a content, given the rows and columns that are there; None for a wrong one."""
    if not content or LENGTHS.get(content[0]) != len(content):
        return None
    value = list(content)
    for at in ROWS_AT[content[0]]:
        row = content[at]
        column = content[at + 1]
        if not (0 <= row < len(rows) and 0 <= column < len(columns)):
            return None
        value[at] = rows[row]
        value[at + 1] = columns[column]
    return tuple(value)


def shown(value, row_ranks, column_ranks):
    """What a cell that has this shows, given the ranks in the line of rows and of columns."""
    if value[0] == AREA:
        return shown_area(value, row_ranks, column_ranks)
    if value[0] == POINTER:
        return shown_pointer(value, row_ranks, column_ranks)
    return list(value)


def shown_area(value, row_ranks, column_ranks):
    rows = span(row_ranks, value[1], value[3])
    columns = span(column_ranks, value[2], value[4])
    if rows is None or columns is None:
        return [LOST]
    return [AREA, rows[0], columns[0], rows[1], columns[1]]


def shown_pointer(value, row_ranks, column_ranks):
    rows = span(row_ranks, value[2], value[2])
    columns = span(column_ranks, value[3], value[3])
    if rows is None or columns is None:
        return [LOST]
    return [POINTER, value[1], rows[0], columns[0], value[4]]


def span(ranks, one, other):
    """The first and the last that are there from one to the other in the line, whichever comes first; None for none."""
    if one not in ranks or other not in ranks:
        # Without a place there is no from or to: nothing of it is there.
        return None
    first = min(ranks[one][0], ranks[other][0])
    end = max(ranks[one][1], ranks[other][1])
    return (first, end - 1) if first < end else None
