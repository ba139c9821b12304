"""Promise 3, remove."""

import unittest

from tests.support import (
    COLS, HIGH, LOW, ROWS, ask, begin, book_after, first, line_after, put, remove, set_cell, state, there_after, undo)


class Remove(unittest.TestCase):
    def test_least_and_most(self):
        self.assertEqual(ask(begin(64, 64, 1), remove(1, ROWS, 0, 64), remove(1, COLS, 63, 1), remove(1, ROWS, 0, 1)),
                         [0, 64, 1, -2])

    def test_they_are_gone(self):
        for axis in (ROWS, COLS):
            calls = [begin(5, 5, 1), remove(1, axis, 1, 2)]
            self.assertEqual(there_after(1, axis, *calls), first(0, 3, 4))
            self.assertEqual(line_after(1, axis, *calls), first(0, 1, 2, 3, 4))
            self.assertEqual(there_after(1, 1 - axis, *calls), first(0, 1, 2, 3, 4))

    def test_counts_those_that_are_there(self):
        self.assertEqual(
            there_after(1, ROWS, begin(6, 1, 1), remove(1, ROWS, 1, 2), remove(1, ROWS, 1, 1)), first(0, 4, 5))
        self.assertEqual(
            there_after(1, ROWS, begin(6, 1, 1), remove(1, ROWS, 2, 1), remove(1, ROWS, 1, 2)), first(0, 4, 5))

    def test_new_ones_too(self):
        self.assertEqual(there_after(1, ROWS, begin(2, 1, 1), put(1, ROWS, 1, 3), remove(1, ROWS, 1, 2)),
                         [(0, 0), (1, 66), (0, 1)])

    def test_all_of_them(self):
        self.assertEqual(ask(begin(3, 2, 1), remove(1, ROWS, 0, 3), set_cell(1, 0, 0, 0), remove(1, ROWS, 0, 1),
                             put(1, ROWS, 0, 1), set_cell(1, 0, 0, 0)), [0, 3, -2, -2, 1, 0])

    def test_one_hands_own(self):
        self.assertEqual(ask(begin(2, 2, 2), remove(1, ROWS, 0, 1), remove(1, ROWS, 0, 2), remove(2, ROWS, 0, 2)),
                         [0, 1, -2, 2])

    def test_not_in_range(self):
        for wrong in (0, 2, -1, LOW, HIGH):
            self.assertEqual(ask(remove(wrong, ROWS, 0, 1)), [-1])
        for wrong in (-1, 2, LOW, HIGH):
            self.assertEqual(ask(remove(1, wrong, 0, 1)), [-1])
        for wrong in (0, -1, 65, LOW, HIGH):
            self.assertEqual(ask(begin(64, 64, 1), put(1, ROWS, 0, 16), remove(1, ROWS, 0, wrong)), [0, 16, -1])

    def test_not_so_many(self):
        for k, n in ((0, 4), (1, 3), (2, 2), (3, 1), (-1, 1), (-1, 2), (LOW, 1), (HIGH, 1), (HIGH, 64), (LOW, 64)):
            self.assertEqual(ask(begin(3, 64, 1), remove(1, ROWS, k, n)), [0, -2])
        self.assertEqual(ask(begin(3, 64, 1), remove(1, ROWS, 1, 2)), [0, 2])

    def test_one_refusal_before_the_other(self):
        self.assertEqual(ask(remove(1, ROWS, 5, 0), remove(1, 2, 5, 1), remove(2, ROWS, 5, 1)), [-1, -1, -1])

    def test_refused_changes_nothing(self):
        calls = [begin(3, 3, 1), remove(1, COLS, 0, 1)]
        refused = [remove(1, COLS, 0, 3), remove(1, ROWS, -1, 1), remove(1, ROWS, 0, 65), remove(3, ROWS, 0, 1)]
        self.assertEqual(ask(*calls, *refused, undo(1), undo(1)), [0, 1, -2, -2, -1, -1, 1, -2])
        self.assertEqual(state(book_after(*calls, *refused)), state(book_after(*calls)))
