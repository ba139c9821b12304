"""The calls. Each takes the book and the call's numbers, and gives back what is answered.

Where several refusals are due the one that is looked at first is answered: -1, -2, -3, -5.
"""

from sheethands.act import DONE, REDO, UNDO, cell_of, gone_of, place_of, to_take_back
from sheethands.content import held
from sheethands.place import places_between
from sheethands.view import passed_of, sheet_of

MOST_LINES = 64
MOST_HANDS = 8
MOST_PUT = 16
MOST_TAKEN = 64
NUMBERS_AN_ACT = 64


def begin(book, numbers):
    rows = numbers[0]
    cols = numbers[1]
    hands = numbers[2]
    if not (1 <= rows <= MOST_LINES and 1 <= cols <= MOST_LINES and 1 <= hands <= MOST_HANDS):
        return [-1]
    book.restart(rows, cols, hands)
    return [0]


def put(book, numbers):
    hand = numbers[0]
    axis = numbers[1]
    k = numbers[2]
    n = numbers[3]
    if not (is_on_axis(book, hand, axis) and 1 <= n <= MOST_PUT):
        return [-1]
    copy = book.copy_of(hand)
    there = copy.there(axis)
    if not 0 <= k <= len(there):
        return [-2]
    first = first_number(book, hand)
    fresh = [(hand, first + i) for i in range(n)]
    return place_all(book, hand, axis, fresh, copy.line(axis), nth(there, k))


def remove(book, numbers):
    hand = numbers[0]
    axis = numbers[1]
    k = numbers[2]
    n = numbers[3]
    if not (is_on_axis(book, hand, axis) and 1 <= n <= MOST_TAKEN):
        return [-1]
    there = book.copy_of(hand).there(axis)
    if not is_run(there, k, n):
        return [-2]
    writes = dict([(gone_of(axis, number), True) for number in there[k:k + n]])
    return do(book, hand, writes, n)


def move(book, numbers):
    hand = numbers[0]
    axis = numbers[1]
    k = numbers[2]
    n = numbers[3]
    j = numbers[4]
    if not (is_on_axis(book, hand, axis) and 1 <= n <= MOST_TAKEN):
        return [-1]
    copy = book.copy_of(hand)
    there = copy.there(axis)
    if not (is_run(there, k, n) and 0 <= j <= len(there)) or k < j < k + n:
        return [-2]
    moved = dict([(number, True) for number in there[k:k + n]])
    others = [number for number in copy.line(axis) if number not in moved]
    # The k-th is moved itself, so it can't be what they come before.
    behind = k + n if j == k else j
    return place_all(book, hand, axis, list(moved), others, nth(there, behind))


def set_cell(book, numbers):
    hand = numbers[0]
    row = numbers[1]
    column = numbers[2]
    content = numbers[4:]
    if not book.has_hand(hand):
        return [-1]
    copy = book.copy_of(hand)
    rows = copy.there(0)
    columns = copy.there(1)
    if not (0 <= row < len(rows) and 0 <= column < len(columns)):
        return [-2]
    value = held(content, rows, columns)
    if value is None:
        return [-3]
    return do(book, hand, {cell_of(rows[row], columns[column]): value}, 0)


def undo(book, numbers):
    return take_back(book, numbers[0], UNDO)


def redo(book, numbers):
    return take_back(book, numbers[0], REDO)


def bring(book, numbers):
    hand = numbers[0]
    g = numbers[1]
    k = numbers[2]
    if not (book.has_hand(hand) and book.has_hand(g)):
        return [-1]
    made = book.acts_of(g)
    if not 1 <= k <= len(made):
        return [-2]
    return [book.copy_of(hand).receive(made[k - 1])]


def sync(book, numbers):
    hand = numbers[0]
    g = numbers[1]
    if not (book.has_hand(hand) and book.has_hand(g)):
        return [-1]
    copy = book.copy_of(hand)
    many = 0
    # The two may be one and the same copy.
    for act in list(book.copy_of(g).came):
        many += copy.receive(act)
    return [many]


def sheet(book, numbers):
    hand = numbers[0]
    if not book.has_hand(hand):
        return [-1]
    return [0] + sheet_of(book.copy_of(hand))


def passed(book, numbers):
    hand = numbers[0]
    if not book.has_hand(hand):
        return [-1]
    return passed_of(book.copy_of(hand))


def acts(book, numbers):
    hand = numbers[0]
    if not book.has_hand(hand):
        return [-1]
    copy = book.copy_of(hand)
    return [len(copy.came), len(copy.waiting)] + copy.had


def is_on_axis(book, hand, axis):
    return book.has_hand(hand) and 0 <= axis <= 1


def is_run(there, k, n):
    """Whether there are n from the k-th on."""
    return 0 <= k <= len(there) - n


def first_number(book, hand):
    """The first of the numbers that are the hand's coming act's alone."""
    return NUMBERS_AN_ACT * book.coming_number(hand)


def nth(there, k):
    """The k-th that is there; None for as many as are there."""
    return there[k] if k < len(there) else None


def place_all(book, hand, axis, placed, line, behind):
    """The hand gives places to all that are placed, in a line without them, just before one of it (None: last)."""
    places = book.copy_of(hand).places[axis]
    at = len(line) if behind is None else line.index(behind)
    lower = places[line[at - 1]] if at > 0 else ()
    upper = places[line[at]] if at < len(line) else ()
    targets = [place_of(axis, number) for number in placed]
    fresh = places_between(lower, upper, hand, first_number(book, hand), len(placed))
    return do(book, hand, dict(zip(targets, fresh)), len(placed))


def do(book, hand, writes, answer):
    """The hand makes an act that is neither undo nor redo."""
    if book.is_full(hand):
        return [-5]
    book.make(hand, DONE, writes)
    return [answer]


def take_back(book, hand, kind):
    """The hand makes an undo or a redo, by the kind, of its last act that such a one can take back."""
    if not book.has_hand(hand):
        return [-1]
    able = to_take_back(book.acts_of(hand))[kind]
    if not able:
        return [-2]
    if book.is_full(hand):
        return [-5]
    writes = taken_back(book, hand, able[-1])
    book.make(hand, kind, writes)
    return [len(writes)]


def taken_back(book, hand, act):
    """The writes that take back what of an act still counts in the hand's copy."""
    counting = book.copy_of(hand).counting
    writes = {}
    for target in act.writes:
        # In the hand's own copy its own act is always there, so somebody's counts.
        if counting[target].is_same(act):
            writes[target] = book.stood(target, act.knows)
    return writes


CALLS = {
    1: begin, 2: put, 3: remove, 4: move, 5: set_cell, 6: undo,
    7: redo, 8: bring, 9: sync, 10: sheet, 11: passed, 12: acts}


def answer_of(book, call, numbers):
    """What a call, told by its number, answers."""
    return CALLS[call](book, numbers)
