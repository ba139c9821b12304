"""Promise 12, acts."""

import unittest

from tests.support import (
    COLS, HIGH, LOW, ROWS, acts, begin, book_after, bring, last, move, put, redo, remove, set_cell, sheet, state, sync,
    undo)


class Acts(unittest.TestCase):
    def test_none(self):
        self.assertEqual(last(acts(1)), [0, 0, 0])
        self.assertEqual(last(begin(1, 1, 3), acts(2)), [0, 0, 0, 0, 0])
        self.assertEqual(last(begin(1, 1, 8), acts(8)), [0] * 10)

    def test_all_that_make_one(self):
        calls = [put(1, ROWS, 0, 2), remove(1, COLS, 0, 1), undo(1), move(1, ROWS, 0, 1, 2), set_cell(1, 0, 0, 0),
                 undo(1), redo(1)]
        for many in range(8):
            self.assertEqual(last(begin(2, 2, 2), *calls[:many], acts(1)), [many, 0, many, 0])
            self.assertEqual(last(begin(2, 2, 2), *calls[:many], acts(2)), [0, 0, 0, 0])

    def test_though_nothing_would_change(self):
        calls = [set_cell(1, 0, 0, 0), set_cell(1, 0, 0, 0), move(1, ROWS, 0, 1, 0), undo(1), undo(1), undo(1)]
        self.assertEqual(last(*calls, acts(1)), [6, 0, 6])

    def test_refused_make_none(self):
        calls = [undo(1), redo(1), put(1, ROWS, 2, 1), remove(1, ROWS, 0, 2), move(1, ROWS, 0, 1, 2),
                 set_cell(1, 1, 0, 0), set_cell(1, 0, 0, 4), begin(0, 1, 1), bring(1, 1, 1), sync(1, 2)]
        self.assertEqual(last(*calls, acts(1)), [0, 0, 0])

    def test_what_others_look_at_makes_none(self):
        self.assertEqual(last(set_cell(1, 0, 0, 0), sheet(1), acts(1), [11, 1], acts(1)), [1, 0, 1])

    def test_of_several_hands(self):
        calls = [begin(1, 1, 4), set_cell(2, 0, 0, 0), set_cell(4, 0, 0, 0), set_cell(4, 0, 0, 0), sync(1, 4),
                 sync(1, 2), set_cell(1, 0, 0, 0)]
        self.assertEqual(last(*calls, acts(1)), [4, 0, 1, 1, 0, 2])
        self.assertEqual(last(*calls, acts(2)), [1, 0, 0, 1, 0, 0])
        self.assertEqual(last(*calls, acts(3)), [0, 0, 0, 0, 0, 0])
        self.assertEqual(last(*calls, acts(4)), [2, 0, 0, 0, 0, 2])

    def test_those_that_wait(self):
        calls = [begin(1, 1, 3), set_cell(1, 0, 0, 0), set_cell(1, 0, 0, 0), set_cell(1, 0, 0, 0), sync(2, 1),
                 set_cell(2, 0, 0, 0), bring(3, 2, 1), bring(3, 1, 3), bring(3, 1, 3)]
        self.assertEqual(last(*calls, acts(3)), [0, 2, 0, 0, 0])
        self.assertEqual(last(*calls, bring(3, 1, 1), acts(3)), [1, 2, 1, 0, 0])
        self.assertEqual(last(*calls, bring(3, 1, 1), set_cell(3, 0, 0, 0), acts(3)), [2, 2, 1, 0, 1])
        self.assertEqual(last(*calls, bring(3, 1, 1), bring(3, 1, 2), acts(3)), [4, 0, 3, 1, 0])

    def test_again_begun(self):
        self.assertEqual(last(set_cell(1, 0, 0, 0), begin(1, 1, 1), acts(1)), [0, 0, 0])
        self.assertEqual(last(set_cell(1, 0, 0, 0), begin(1, 1, 9), acts(1)), [1, 0, 1])

    def test_no_such_hand(self):
        for wrong in (0, 3, -1, LOW, HIGH):
            self.assertEqual(last(begin(1, 1, 2), acts(wrong)), [-1])

    def test_it_changes_nothing(self):
        calls = [begin(1, 1, 2), set_cell(1, 0, 0, 0), set_cell(1, 0, 0, 0), bring(2, 1, 2)]
        self.assertEqual(state(book_after(*calls, acts(1), acts(2), acts(3))), state(book_after(*calls)))
