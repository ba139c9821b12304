"""Calls as the interface lays them, and ways to look at what they leave behind."""

from sheethands.act import cell_of
from sheethands.book import Book
from sheethands.sheet import answers, answers_on

LOW = -2 ** 63
HIGH = 2 ** 63 - 1
ROWS = 0
COLS = 1


def begin(rows, cols, hands):
    return [1, rows, cols, hands]


def put(hand, axis, k, n):
    return [2, hand, axis, k, n]


def remove(hand, axis, k, n):
    return [3, hand, axis, k, n]


def move(hand, axis, k, n, j):
    return [4, hand, axis, k, n, j]


def set_cell(hand, row, column, *content):
    return [5, hand, row, column, len(content), *content]


def undo(hand):
    return [6, hand]


def redo(hand):
    return [7, hand]


def bring(hand, g, k):
    return [8, hand, g, k]


def sync(hand, g):
    return [9, hand, g]


def sheet(hand):
    return [10, hand]


def passed(hand):
    return [11, hand]


def acts(hand):
    return [12, hand]


def joined(calls):
    return [number for call in calls for number in call]


def unframed(answered):
    """The first number of each answer, where each has one alone."""
    counts = answered[0::2]
    if any(count != 1 for count in counts):
        raise ValueError(f"not all answers have one number: {answered}")
    return answered[1::2]


def ask(*calls):
    return unframed(answers(joined(calls)))


def split(answered):
    """The answers one by one, each as a list of its own."""
    found = []
    at = 0
    while at < len(answered):
        found.append(answered[at + 1:at + 1 + answered[at]])
        at += 1 + answered[at]
    return found


def ask_all(*calls):
    return split(answers(joined(calls)))


def last(*calls):
    """What the last of the calls answers."""
    return ask_all(*calls)[-1]


def unshown(numbers):
    """A sheet as sheet tells it, as rows of what each cell shows; the count of columns is told by the rows."""
    zero, rows, columns = numbers[:3]
    if zero != 0:
        raise ValueError(f"not a sheet: {numbers}")
    cells = []
    at = 3
    while at < len(numbers):
        size = {0: 1, 1: 2, 2: 5, 3: 5, 4: 1}[numbers[at]]
        cells.append(tuple(numbers[at:at + size]))
        at += size
    if len(cells) != rows * columns:
        raise ValueError(f"not {rows} rows of {columns} cells: {numbers}")
    return [cells[k * columns:(k + 1) * columns] for k in range(rows)]


def sheet_after(hand, *calls):
    return unshown(last(*calls, sheet(hand)))


def passed_after(hand, *calls):
    """The writes that passed tells, five numbers each."""
    numbers = last(*calls, passed(hand))
    found = [tuple(numbers[at:at + 5]) for at in range(1, len(numbers), 5)]
    if numbers[0] != len(found):
        raise ValueError(f"not so many: {numbers}")
    return found


def book_after(*calls):
    book = Book()
    answers_on(book, joined(calls))
    return book


def line_after(hand, axis, *calls):
    return book_after(*calls).copy_of(hand).line(axis)


def there_after(hand, axis, *calls):
    return book_after(*calls).copy_of(hand).there(axis)


def places_after(hand, axis, *calls):
    return dict(book_after(*calls).copy_of(hand).places[axis])


def first(*numbers):
    """The numbers of some of the first rows or columns."""
    return [(0, k) for k in numbers]


def cell_after(hand, row, column, *calls):
    """What the cell of two numbers that stay has in the hand's copy."""
    return book_after(*calls).copy_of(hand).has(cell_of(row, column))


def placed(copy, axis):
    """The line with its places."""
    return [(number, copy.places[axis][number]) for number in copy.line(axis)]


def told(act):
    return (act.kind, act.hand, act.number, act.time, act.knows, list(act.writes.items()))


def state(book):
    """All that a book has, by values, so that two can be compared."""
    return [
        (copy.time, list(copy.had), [placed(copy, axis) for axis in (ROWS, COLS)],
         [copy.there(axis) for axis in (ROWS, COLS)],
         [(target, copy.has(target)) for target in copy.counting],
         [told(act) for act in copy.came], [told(act) for act in copy.waiting.values()],
         [told(act) for act in made])
        for copy, made in zip(book.copies, book.made)
    ]
