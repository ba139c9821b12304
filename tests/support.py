"""Calls as the interface lays them, and ways to look at what they leave behind."""

from sheethands.act import cell_of
from sheethands.book import Book
from sheethands.sheet import answers, answers_on

LOW = -2 ** 63
HIGH = 2 ** 63 - 1
ROWS = 0
COLS = 1


def begin(rows, cols, hands):
    return [1, rows, cols, hands]


def put(hand, axis, k, n):
    return [2, hand, axis, k, n]


def remove(hand, axis, k, n):
    return [3, hand, axis, k, n]


def move(hand, axis, k, n, j):
    return [4, hand, axis, k, n, j]


def set_cell(hand, row, column, *content):
    return [5, hand, row, column, len(content), *content]


def undo(hand):
    return [6, hand]


def joined(calls):
    return [number for call in calls for number in call]


def unframed(answered):
    """The first number of each answer, where each has one alone."""
    counts = answered[0::2]
    if any(count != 1 for count in counts):
        raise ValueError(f"not all answers have one number: {answered}")
    return answered[1::2]


def ask(*calls):
    return unframed(answers(joined(calls)))


def book_after(*calls):
    book = Book()
    answers_on(book, joined(calls))
    return book


def line_after(hand, axis, *calls):
    return book_after(*calls).copy_of(hand).line(axis)


def there_after(hand, axis, *calls):
    return book_after(*calls).copy_of(hand).there(axis)


def places_after(hand, axis, *calls):
    return dict(book_after(*calls).copy_of(hand).places[axis])


def first(*numbers):
    """The numbers of some of the first rows or columns."""
    return [(0, k) for k in numbers]


def cell_after(hand, row, column, *calls):
    """What the cell of two numbers that stay has in the hand's copy."""
    return book_after(*calls).copy_of(hand).has(cell_of(row, column))


def state(book):
    """All that a book has, by values, so that two can be compared."""
    return [
        (copy.time, list(copy.had), [list(places.items()) for places in copy.places],
         [copy.there(ROWS), copy.there(COLS)],
         [(target, copy.has(target)) for target in copy.counting],
         [(act.kind, act.number, act.time, act.knows, list(act.writes.items())) for act in made])
        for copy, made in zip(book.copies, book.made)
    ]
