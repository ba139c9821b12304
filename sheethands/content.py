"""The content of a cell: as set tells it, by what is there, and as a cell has it, by numbers that stay."""

# By the form, a content's first number: 0 nothing, 1 a number, 2 an area, 3 a cell with a and k.
LENGTHS = {0: 1, 1: 2, 2: 5, 3: 5}

# Where rows stand in a content of each form; behind each row stands its column.
ROWS_AT = {0: (), 1: (), 2: (1, 3), 3: (2,)}


def held(content, rows, columns):
    """What a cell has by a content, given the rows and columns that are there; None for a wrong one."""
    if not content or LENGTHS.get(content[0]) != len(content):
        return None
    value = list(content)
    for at in ROWS_AT[content[0]]:
        row = content[at]
        column = content[at + 1]
        if not (0 <= row < len(rows) and 0 <= column < len(columns)):
            return None
        value[at] = rows[row]
        value[at + 1] = columns[column]
    return tuple(value)
