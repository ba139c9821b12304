"""Promise 2, put."""

import unittest

from tests.support import (
    COLS, HIGH, LOW, ROWS, ask, begin, book_after, first, line_after, places_after, put, remove, set_cell, state,
    there_after, undo)


class Put(unittest.TestCase):
    def test_answers_n(self):
        self.assertEqual(ask(begin(2, 3, 1), put(1, ROWS, 0, 1), put(1, ROWS, 3, 16), put(1, COLS, 1, 2)),
                         [0, 1, 16, 2])

    def test_so_many_more_are_there(self):
        self.assertEqual(
            ask(begin(2, 3, 1), put(1, ROWS, 2, 16), set_cell(1, 17, 2, 0), set_cell(1, 18, 2, 0),
                put(1, COLS, 0, 2), set_cell(1, 17, 4, 0), set_cell(1, 17, 5, 0)),
            [0, 16, 0, -2, 2, 0, -2])

    def test_numbers_and_order(self):
        for axis in (ROWS, COLS):
            self.assertEqual(line_after(1, axis, begin(2, 2, 1), put(1, axis, 0, 2)), [(1, 64), (1, 65)] + first(0, 1))
            self.assertEqual(line_after(1, axis, begin(2, 2, 1), put(1, axis, 1, 2)),
                             [(0, 0), (1, 64), (1, 65), (0, 1)])
            self.assertEqual(line_after(1, axis, begin(2, 2, 1), put(1, axis, 2, 2)), first(0, 1) + [(1, 64), (1, 65)])
            self.assertEqual(line_after(1, 1 - axis, begin(2, 2, 1), put(1, axis, 1, 2)), first(0, 1))

    def test_numbers_go_by_the_act(self):
        self.assertEqual(
            line_after(2, ROWS, begin(1, 1, 2), put(2, COLS, 0, 1), put(2, ROWS, 1, 1), put(2, ROWS, 1, 2)),
            [(0, 0), (2, 192), (2, 193), (2, 128)])

    def test_places(self):
        self.assertEqual(places_after(1, ROWS, begin(2, 1, 1), put(1, ROWS, 1, 2)), {
            (0, 0): ((0, 0, 0),), (1, 64): ((0, 0, 0), (0, 1, 64)), (1, 65): ((0, 0, 0), (1, 1, 65)),
            (0, 1): ((1, 0, 1),)})
        self.assertEqual(places_after(1, ROWS, put(1, ROWS, 0, 1), put(1, ROWS, 2, 1)), {
            (1, 64): ((-1, 1, 64),), (0, 0): ((0, 0, 0),), (1, 128): ((1, 1, 128),)})

    def test_gone_ones_are_in_the_line(self):
        calls = [begin(4, 1, 1), remove(1, ROWS, 1, 2), put(1, ROWS, 1, 1)]
        self.assertEqual(line_after(1, ROWS, *calls), first(0, 1, 2) + [(1, 128), (0, 3)])
        self.assertEqual(there_after(1, ROWS, *calls), [(0, 0), (1, 128), (0, 3)])
        self.assertEqual(places_after(1, ROWS, *calls)[(1, 128)], ((2, 0, 2), (0, 1, 128)))

    def test_behind_all_in_the_line(self):
        self.assertEqual(line_after(1, ROWS, begin(3, 1, 1), remove(1, ROWS, 1, 2), put(1, ROWS, 1, 1)),
                         first(0, 1, 2) + [(1, 128)])
        calls = [begin(2, 1, 1), remove(1, ROWS, 0, 2), put(1, ROWS, 0, 1)]
        self.assertEqual(ask(*calls), [0, 2, 1])
        self.assertEqual(line_after(1, ROWS, *calls), first(0, 1) + [(1, 128)])
        self.assertEqual(there_after(1, ROWS, *calls), [(1, 128)])

    def test_one_hands_rows_are_not_anothers(self):
        self.assertEqual(
            ask(begin(1, 1, 2), put(1, ROWS, 0, 3), put(2, ROWS, 2, 1), put(2, ROWS, 1, 1), put(1, ROWS, 4, 1)),
            [0, 3, -2, 1, 1])

    def test_not_in_range(self):
        for wrong in (0, 3, -1, LOW, HIGH):
            self.assertEqual(ask(begin(2, 2, 2), put(wrong, ROWS, 0, 1)), [0, -1])
        for wrong in (-1, 2, LOW, HIGH):
            self.assertEqual(ask(put(1, wrong, 0, 1)), [-1])
        for wrong in (0, -1, 17, 64, LOW, HIGH):
            self.assertEqual(ask(put(1, ROWS, 0, wrong)), [-1])

    def test_no_such_k(self):
        for wrong in (-1, 3, LOW, HIGH):
            self.assertEqual(ask(begin(2, 5, 1), put(1, ROWS, wrong, 1)), [0, -2])
        self.assertEqual(ask(begin(2, 5, 1), put(1, COLS, 5, 1), put(1, COLS, 7, 1)), [0, 1, -2])

    def test_one_refusal_before_the_other(self):
        self.assertEqual(ask(put(1, ROWS, 2, 0), put(1, 2, 2, 1), put(2, ROWS, 2, 1)), [-1, -1, -1])

    def test_refused_changes_nothing(self):
        calls = [begin(2, 2, 1), put(1, ROWS, 0, 2)]
        refused = [put(1, ROWS, 5, 1), put(1, ROWS, -1, 1), put(1, ROWS, 0, 17), put(2, ROWS, 0, 1), put(1, 2, 0, 1)]
        self.assertEqual(ask(*calls, *refused, undo(1), undo(1)), [0, 2, -2, -2, -1, -1, -1, 2, -2])
        self.assertEqual(state(book_after(*calls, *refused)), state(book_after(*calls)))
