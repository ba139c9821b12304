"""Promise 1, begin, and how a line of calls begins."""

import unittest

from sheethands.sheet import answers
from tests.support import (
    COLS, HIGH, LOW, ROWS, ask, begin, first, line_after, move, put, remove, set_cell, undo)


class Interface(unittest.TestCase):
    def test_no_calls(self):
        self.assertEqual(answers([]), [])

    def test_frame(self):
        self.assertEqual(answers([1, 2, 3, 2, 2, 1, 0, 0, 4, 5, 1, 0, 0, 2, 1, 9, 6, 1, 6, 9]),
                         [1, 0, 1, 4, 1, 0, 1, 1, 1, -1])

    def test_what_is_handed_in_stays(self):
        calls = (begin(2, 2, 2) + put(1, 0, 1, 3) + set_cell(1, 0, 0, 2, 0, 0, 1, 1) + move(1, 0, 0, 2, 3)
                 + remove(1, 0, 0, 1) + undo(1) + set_cell(2, 0, 0, 9))
        before = list(calls)
        answers(calls)
        self.assertEqual(calls, before)

    def test_same_list_twice(self):
        calls = put(1, 0, 1, 3) + remove(1, 0, 0, 4) + undo(1) + set_cell(1, 0, 0, 1, 5) + undo(1) + undo(1)
        asked = answers(calls)
        self.assertEqual(asked, [1, 3, 1, 4, 1, 4, 1, 0, 1, 1, 1, 3])
        self.assertEqual(answers(calls), asked)

    def test_answers_are_lists_of_their_own(self):
        asked = answers([1, 1, 1, 1])
        asked.append(7)
        self.assertEqual(answers([1, 1, 1, 1]), [1, 0])

    def test_three_hundred_calls(self):
        calls = begin(64, 64, 8)
        for k in range(149):
            calls += put(1, 0, k, 16) + move(1, 0, 64, 16, 0)
        self.assertEqual(answers(calls), [1, 0] + [1, 16] * 298)


class Start(unittest.TestCase):
    def test_one_hand(self):
        self.assertEqual(ask(set_cell(1, 0, 0, 0), set_cell(2, 0, 0, 0)), [0, -1])

    def test_one_row_and_one_column(self):
        self.assertEqual(ask(set_cell(1, 1, 0, 0), set_cell(1, 0, 1, 0), set_cell(1, 0, 0, 0)), [-2, -2, 0])
        self.assertEqual(ask(remove(1, ROWS, 0, 2), remove(1, COLS, 0, 2)), [-2, -2])

    def test_no_act(self):
        self.assertEqual(ask(undo(1)), [-2])


class Begin(unittest.TestCase):
    def test_least_and_most(self):
        self.assertEqual(ask(begin(1, 1, 1), begin(64, 64, 8), begin(1, 64, 8), begin(64, 1, 1)), [0, 0, 0, 0])

    def test_so_many_rows_and_columns(self):
        self.assertEqual(ask(begin(64, 63, 1), remove(1, ROWS, 63, 1), remove(1, COLS, 62, 1),
                             remove(1, COLS, 62, 1)), [0, 1, 1, -2])
        self.assertEqual(line_after(1, ROWS, begin(3, 2, 1)), first(0, 1, 2))
        self.assertEqual(line_after(1, COLS, begin(3, 2, 1)), first(0, 1))

    def test_so_many_hands(self):
        self.assertEqual(ask(begin(1, 1, 8), undo(8), undo(9), undo(0)), [0, -2, -1, -1])

    def test_each_out_of_range(self):
        for wrong in (0, -1, 65, LOW, HIGH):
            self.assertEqual(ask(begin(wrong, 1, 1), begin(1, wrong, 1)), [-1, -1])
        for wrong in (0, -1, 9, LOW, HIGH):
            self.assertEqual(ask(begin(1, 1, wrong)), [-1])

    def test_refused_changes_nothing(self):
        self.assertEqual(
            ask(begin(2, 2, 2), put(2, ROWS, 0, 1), begin(65, 1, 1), begin(1, 0, 1), begin(1, 1, 9),
                set_cell(2, 2, 1, 0), undo(2), undo(2), undo(2)),
            [0, 1, -1, -1, -1, 0, 1, 1, -2])

    def test_again_all_is_as_at_first(self):
        self.assertEqual(
            ask(begin(2, 2, 2), put(1, ROWS, 0, 1), set_cell(1, 0, 0, 1, 5), begin(2, 2, 2), undo(1),
                set_cell(1, 2, 0, 0), put(1, ROWS, 2, 1)),
            [0, 1, 0, 0, -2, -2, 1])
        self.assertEqual(line_after(1, ROWS, put(1, 0, 0, 1), put(1, 0, 0, 1), begin(1, 1, 1), put(1, 0, 1, 1)),
                         [(0, 0), (1, 64)])
