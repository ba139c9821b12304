"""What a hand is shown of its copy: the sheet, and the writes that were passed over."""

from sheethands.act import CELL
from sheethands.content import shown


def sheet_of(copy):
    """How many rows and columns are there, then what the cells show, row by row."""
    rows = copy.there(0)
    columns = copy.there(1)
    row_ranks = copy.ranks(0)
    column_ranks = copy.ranks(1)
    cells = cells_by_row(copy)
    told = [len(rows), len(columns)]
    for row in rows:
        told.extend(shown_row(cells.get(row, {}), columns, row_ranks, column_ranks))
    return told


def cells_by_row(copy):
    """What the cells that somebody wrote have, by row, then by column."""
    cells = {}
    for target, act in copy.counting.items():
        if target[0] == CELL:
            row = cells.setdefault(target[1], {})
            row[target[2]] = act.writes[target]
    return cells


def shown_row(cells, columns, row_ranks, column_ranks):
    # Most rows of a great sheet have nothing at all: they are not gone through cell by cell.
    if not cells:
        return [0] * len(columns)
    told = []
    for column in columns:
        if column in cells:
            told.extend(shown(cells[column], row_ranks, column_ranks))
        else:
            told.append(0)
    return told


def passed_of(copy):
    """How many writes don't count where the act that does didn't know theirs, then five numbers of each."""
    many = 0
    told = []
    for act in sorted(copy.came, key=lambda one: (one.hand, one.number)):
        for target in act.writes:
            other = copy.counting[target]
            if not (other.is_same(act) or other.knew(act)):
                many += 1
                told.extend([act.hand, act.number, target[0], other.hand, other.number])
    return [many] + told
