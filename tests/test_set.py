"""Promise 5, set."""

import unittest

from tests.support import (
    COLS, HIGH, LOW, ROWS, ask, begin, book_after, cell_after, move, put, remove, set_cell, state, undo)

SMALL = begin(2, 3, 2)


class Set(unittest.TestCase):
    def test_each_form(self):
        self.assertEqual(
            ask(SMALL, set_cell(1, 0, 0, 0), set_cell(1, 0, 0, 1, 7), set_cell(1, 0, 0, 2, 0, 0, 1, 2),
                set_cell(1, 0, 0, 3, 4, 1, 2, 5)),
            [0, 0, 0, 0, 0])

    def test_numbers_at_the_ends(self):
        self.assertEqual(
            ask(set_cell(1, 0, 0, 1, LOW), set_cell(1, 0, 0, 1, HIGH), set_cell(1, 0, 0, 3, LOW, 0, 0, HIGH),
                set_cell(1, 0, 0, 3, HIGH, 0, 0, LOW)),
            [0, 0, 0, 0])

    def test_the_cell_has_that(self):
        row = (0, 1)
        column = (0, 2)
        self.assertEqual(cell_after(1, row, column, SMALL), (0,))
        self.assertEqual(cell_after(1, row, column, SMALL, set_cell(1, 1, 2, 1, -7)), (1, -7))
        self.assertEqual(cell_after(1, row, column, SMALL, set_cell(1, 1, 2, 1, -7), set_cell(1, 1, 2, 0)), (0,))
        self.assertEqual(cell_after(1, row, column, SMALL, set_cell(1, 1, 2, 2, 1, 2, 0, 1)),
                         (2, (0, 1), (0, 2), (0, 0), (0, 1)))
        self.assertEqual(cell_after(1, row, column, SMALL, set_cell(1, 1, 2, 3, 8, 0, 2, 9)),
                         (3, 8, (0, 0), (0, 2), 9))

    def test_no_other_cell_has_it(self):
        calls = [SMALL, set_cell(1, 1, 2, 1, 7)]
        self.assertEqual(cell_after(1, (0, 1), (0, 1), *calls), (0,))
        self.assertEqual(cell_after(2, (0, 1), (0, 2), *calls), (0,))

    def test_by_what_is_there_now(self):
        calls = [SMALL, put(1, ROWS, 0, 1), remove(1, COLS, 0, 1), move(1, ROWS, 2, 1, 0),
                 set_cell(1, 0, 1, 2, 1, 0, 2, 1)]
        self.assertEqual(cell_after(1, (0, 1), (0, 2), *calls), (2, (1, 64), (0, 1), (0, 0), (0, 2)))

    def test_it_goes_with_its_row(self):
        calls = [SMALL, set_cell(1, 0, 0, 1, 7), put(1, ROWS, 0, 2)]
        self.assertEqual(cell_after(1, (0, 0), (0, 0), *calls), (1, 7))
        self.assertEqual(cell_after(1, (1, 128), (0, 0), *calls), (0,))

    def test_no_such_hand(self):
        for wrong in (0, 3, -1, LOW, HIGH):
            self.assertEqual(ask(SMALL, set_cell(wrong, 0, 0, 0)), [0, -1])

    def test_no_such_row_or_column(self):
        for wrong in (-1, 2, LOW, HIGH):
            self.assertEqual(ask(SMALL, set_cell(1, wrong, 0, 0)), [0, -2])
        for wrong in (-1, 3, LOW, HIGH):
            self.assertEqual(ask(SMALL, set_cell(1, 0, wrong, 0)), [0, -2])
        self.assertEqual(ask(SMALL, set_cell(1, 1, 2, 0), set_cell(1, 2, 1, 0)), [0, 0, -2])
        self.assertEqual(ask(SMALL, remove(1, COLS, 0, 3), set_cell(1, 0, 0, 0)), [0, 3, -2])

    def test_none_of_the_forms(self):
        for wrong in ((4,), (-1,), (LOW,), (HIGH,), (0, 0), (1,), (1, 2, 3), (2,), (2, 0, 0, 0), (2, 0, 0, 0, 0, 0),
                      (3,), (3, 0, 0, 0), (3, 0, 0, 0, 0, 0), (4, 0, 0, 0, 0), (2, 0, 0, 0, 0, 0, 0, 0),
                      (0, 0, 0, 0, 0, 0, 0, 0), ()):
            self.assertEqual(ask(SMALL, set_cell(1, 0, 0, *wrong)), [0, -3], wrong)

    def test_tells_what_is_not_there(self):
        for wrong in (-1, 2, LOW, HIGH):
            self.assertEqual(ask(SMALL, set_cell(1, 0, 0, 2, wrong, 0, 0, 0), set_cell(1, 0, 0, 2, 0, 0, wrong, 0),
                                 set_cell(1, 0, 0, 3, 0, wrong, 0, 0)), [0, -3, -3, -3])
        for wrong in (-1, 3, LOW, HIGH):
            self.assertEqual(ask(SMALL, set_cell(1, 0, 0, 2, 0, wrong, 0, 0), set_cell(1, 0, 0, 2, 0, 0, 0, wrong),
                                 set_cell(1, 0, 0, 3, 0, 0, wrong, 0)), [0, -3, -3, -3])
        self.assertEqual(ask(SMALL, set_cell(1, 0, 0, 2, 1, 2, 1, 2), set_cell(1, 0, 0, 3, 0, 1, 2, 0)), [0, 0, 0])

    def test_told_ones_are_gone(self):
        self.assertEqual(
            ask(SMALL, remove(1, ROWS, 1, 1), set_cell(1, 0, 0, 2, 0, 0, 1, 0), set_cell(2, 0, 0, 2, 0, 0, 1, 0)),
            [0, 1, -3, 0])

    def test_one_refusal_before_the_other(self):
        self.assertEqual(ask(SMALL, set_cell(3, 9, 0, 7), set_cell(3, 0, 0, 7), set_cell(1, 9, 0, 7),
                             set_cell(1, 0, 9, 2, 9, 9, 9, 9), set_cell(3, 9, 9, 0)), [0, -1, -1, -2, -2, -1])

    def test_same_again_is_an_act(self):
        self.assertEqual(ask(set_cell(1, 0, 0, 0), set_cell(1, 0, 0, 0), undo(1), undo(1), undo(1)), [0, 0, 1, 0, -2])

    def test_refused_changes_nothing(self):
        calls = [SMALL, set_cell(1, 0, 0, 1, 7)]
        refused = [set_cell(1, 0, 0, 4), set_cell(1, 2, 0, 0), set_cell(9, 0, 0, 0), set_cell(1, 0, 0, 2, 0, 0, 0, 3)]
        self.assertEqual(ask(*calls, *refused, undo(1), undo(1)), [0, 0, -3, -2, -1, -3, 1, -2])
        self.assertEqual(state(book_after(*calls, *refused)), state(book_after(*calls)))
