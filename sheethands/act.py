"""Acts, and what they write.

Writes are a dict, in order, from what is written to what it then has. What is written is a tuple: a code, then
the number of a row or column, or a cell's two numbers. A row's or column's number is a tuple too: hand, number.
"""

from sheethands.place import first_place

DONE = 0
UNDO = 1
REDO = 2

CELL = 4


def place_of(axis, number):
    """A row's (axis 0) or column's (axis 1) place: a tuple of steps, empty for none."""
    return (2 * axis, number)


def gone_of(axis, number):
    """Whether a row or column is gone: True or False."""
    return (2 * axis + 1, number)


def cell_of(row, column):
    """What a cell has: a tuple like the content of set, with numbers of rows and columns in it."""
    return (CELL, row, column)


def is_place(target):
    return target[0] in (0, 2)


def axis_of_place(target):
    return target[0] // 2


def at_first(target):
    """What stands where nobody wrote."""
    if target[0] == CELL:
        return (0,)
    if not is_place(target):
        return False
    number = target[1]
    # Hand 0 stands for nobody: only the first rows and columns are numbered so.
    return first_place(number[1]) if number[0] == 0 else ()


class Act:
    """What a hand did: never changed once it is made."""

    def __init__(self, kind, hand, number, time, knows, writes):
        self.kind = kind
        self.hand = hand
        self.number = number
        self.time = time
        self.knows = knows
        self.writes = writes

    def is_later(self, other):
        """Whether this act counts rather than the other where both write the same."""
        return (self.time, self.hand) > (other.time, other.hand)

    def is_same(self, other):
        return (self.hand, self.number) == (other.hand, other.number)

    def knew(self, other):
        """Whether the other act was in the copy that this one was made on."""
        return other.number <= self.knows[other.hand - 1]


def to_take_back(acts):
    """Of a hand's own acts, in order, those that an undo and those that a redo can take back; the last is next."""
    undoable = []
    redoable = []
    for act in acts:
        if act.kind == UNDO:
            undoable.pop()
            redoable.append(act)
        elif act.kind == REDO:
            redoable.pop()
            undoable.append(act)
        else:
            undoable.append(act)
            redoable = []
    return {UNDO: undoable, REDO: redoable}
