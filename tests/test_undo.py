"""Promise 6, undo, and the most acts of a hand."""

import unittest

from tests.support import (
    COLS, HIGH, LOW, ROWS, ask, begin, book_after, cell_after, first, line_after, move, put, remove, set_cell, state,
    there_after, undo)


class UndoOfEach(unittest.TestCase):
    def test_put(self):
        for axis in (ROWS, COLS):
            calls = [begin(2, 2, 1), put(1, axis, 1, 16), undo(1)]
            self.assertEqual(ask(*calls, put(1, axis, 3, 1), put(1, axis, 2, 1)), [0, 16, 16, -2, 1])
            self.assertEqual(line_after(1, axis, *calls), first(0, 1))

    def test_remove(self):
        for axis in (ROWS, COLS):
            calls = [begin(64, 64, 1), remove(1, axis, 0, 64), undo(1)]
            self.assertEqual(ask(*calls, remove(1, axis, 0, 64)), [0, 64, 64, 64])
            self.assertEqual(there_after(1, axis, *calls), first(*range(64)))

    def test_move(self):
        for axis in (ROWS, COLS):
            calls = [begin(5, 5, 1), move(1, axis, 0, 2, 4), undo(1)]
            self.assertEqual(ask(*calls), [0, 2, 2])
            self.assertEqual(state(book_after(*calls))[0][2], state(book_after(begin(5, 5, 1)))[0][2])

    def test_set(self):
        calls = [set_cell(1, 0, 0, 1, 5), undo(1)]
        self.assertEqual(ask(*calls), [0, 1])
        self.assertEqual(cell_after(1, (0, 0), (0, 0), *calls), (0,))

    def test_what_stood_there_by_the_acts_it_knew(self):
        calls = [set_cell(1, 0, 0, 1, 5), set_cell(1, 0, 0, 1, 6), undo(1)]
        self.assertEqual(ask(*calls), [0, 0, 1])
        self.assertEqual(cell_after(1, (0, 0), (0, 0), *calls), (1, 5))

    def test_move_of_what_was_moved(self):
        calls = [begin(3, 1, 1), move(1, ROWS, 0, 1, 3), move(1, ROWS, 2, 1, 1), undo(1)]
        self.assertEqual(line_after(1, ROWS, *calls[:3]), first(1, 0, 2))
        self.assertEqual(line_after(1, ROWS, *calls), first(1, 2, 0))

    def test_refused_is_not_undone(self):
        self.assertEqual(ask(set_cell(1, 0, 0, 1, 5), put(1, ROWS, 9, 1), undo(1), undo(1)), [0, -2, 1, -2])


class UndoOfSeveral(unittest.TestCase):
    def test_one_behind_another(self):
        calls = [begin(2, 2, 1), put(1, ROWS, 0, 3), remove(1, COLS, 0, 2), move(1, ROWS, 0, 4, 5),
                 set_cell(1, 0, 0, 0), undo(1), undo(1), undo(1), undo(1)]
        # The columns are gone, so set is refused and makes no act. Of the moved four the put wrote three:
        # the move's undo counts there now.
        self.assertEqual(ask(*calls), [0, 3, 2, 4, -2, 4, 2, 0, -2])

    def test_disjoint_ones(self):
        calls = [begin(2, 2, 1), put(1, ROWS, 0, 3), remove(1, COLS, 0, 1), set_cell(1, 0, 0, 1, 4),
                 undo(1), undo(1), undo(1), undo(1)]
        self.assertEqual(ask(*calls), [0, 3, 1, 0, 1, 1, 3, -2])
        self.assertEqual(there_after(1, ROWS, *calls), first(0, 1))
        self.assertEqual(there_after(1, COLS, *calls), first(0, 1))

    def test_only_what_counts(self):
        # The second set's undo wrote the cell last, so nothing of the first set counts any more.
        calls = [set_cell(1, 0, 0, 1, 5), set_cell(1, 0, 0, 1, 6), undo(1), undo(1), undo(1)]
        self.assertEqual(ask(*calls), [0, 0, 1, 0, -2])
        self.assertEqual(cell_after(1, (0, 0), (0, 0), *calls), (1, 5))

    def test_only_some_count(self):
        calls = [begin(1, 1, 1), put(1, ROWS, 1, 3), move(1, ROWS, 2, 1, 0), undo(1), undo(1)]
        self.assertEqual(ask(*calls), [0, 3, 1, 1, 2])
        self.assertEqual(line_after(1, ROWS, *calls), [(0, 0), (1, 65)])

    def test_removed_and_taken_back_twice(self):
        calls = [begin(3, 1, 1), remove(1, ROWS, 0, 2), undo(1), remove(1, ROWS, 1, 2), undo(1), undo(1)]
        self.assertEqual(ask(*calls), [0, 2, 2, 2, 2, -2])
        self.assertEqual(there_after(1, ROWS, *calls), first(0, 1, 2))

    def test_put_behind_an_undo(self):
        calls = [begin(1, 1, 1), put(1, ROWS, 1, 2), undo(1), put(1, ROWS, 1, 1)]
        self.assertEqual(ask(*calls, undo(1), undo(1)), [0, 2, 2, 1, 1, -2])
        # The undo is an act too: the second put is the third.
        self.assertEqual(line_after(1, ROWS, *calls), [(0, 0), (1, 192)])

    def test_put_of_gone_ones(self):
        calls = [begin(1, 1, 1), put(1, ROWS, 0, 2), remove(1, ROWS, 0, 1)]
        self.assertEqual(ask(*calls, undo(1), undo(1), remove(1, ROWS, 0, 2)), [0, 2, 1, 1, 2, -2])

    def test_cells_of_taken_back_rows_keep_what_they_have(self):
        calls = [begin(1, 1, 1), put(1, ROWS, 0, 1), set_cell(1, 0, 0, 1, 4), undo(1), undo(1), set_cell(1, 1, 0, 0)]
        self.assertEqual(ask(*calls), [0, 1, 0, 1, 1, -2])


class UndoOfHands(unittest.TestCase):
    def test_each_its_own(self):
        self.assertEqual(
            ask(begin(2, 2, 3), put(1, ROWS, 0, 2), remove(2, COLS, 0, 1), undo(3), undo(2), undo(2), undo(1), undo(1)),
            [0, 2, 1, -2, 1, -2, 2, -2])

    def test_anothers_copy_stays(self):
        calls = [begin(2, 2, 2), remove(1, ROWS, 0, 1), remove(2, ROWS, 0, 1), undo(1)]
        self.assertEqual(there_after(1, ROWS, *calls), first(0, 1))
        self.assertEqual(there_after(2, ROWS, *calls), first(1))

    def test_eighth_hand(self):
        self.assertEqual(ask(begin(1, 1, 8), set_cell(8, 0, 0, 1, 5), undo(8), undo(8), undo(7)), [0, 0, 1, -2, -2])


class Refused(unittest.TestCase):
    def test_no_such_hand(self):
        for wrong in (0, 2, -1, LOW, HIGH):
            self.assertEqual(ask(set_cell(1, 0, 0, 0), undo(wrong)), [0, -1])

    def test_nothing_to_undo(self):
        self.assertEqual(ask(undo(1), set_cell(1, 0, 0, 0), undo(1), undo(1), undo(1)), [-2, 0, 1, -2, -2])

    def test_refused_changes_nothing(self):
        calls = [begin(2, 2, 2), put(1, ROWS, 0, 2), undo(1)]
        refused = [undo(1), undo(2), undo(3), undo(0)]
        self.assertEqual(ask(*calls, *refused), [0, 2, 2, -2, -2, -1, -1])
        self.assertEqual(state(book_after(*calls, *refused)), state(book_after(*calls)))


class MostActs(unittest.TestCase):
    def test_no_hand_makes_more_than_4096(self):
        many = [set_cell(1, 0, 0, 1, 5)] * 4096
        begun = [begin(2, 2, 2)]
        refused = [set_cell(1, 0, 0, 0), put(1, ROWS, 0, 1), remove(1, ROWS, 0, 1), move(1, ROWS, 0, 1, 0), undo(1)]
        self.assertEqual(ask(*begun, *many, *refused)[-6:], [0, -5, -5, -5, -5, -5])
        self.assertEqual(ask(*begun, *many[1:], *refused)[-6:], [0, 0, -5, -5, -5, -5])
        earlier = [set_cell(3, 0, 0, 0), set_cell(1, 2, 0, 0), set_cell(1, 0, 0, 4), put(1, 2, 0, 1), put(1, 0, 3, 1),
                   remove(1, ROWS, 2, 1), move(1, ROWS, 0, 1, 3), undo(3), undo(2), set_cell(2, 0, 0, 0)]
        self.assertEqual(ask(*begun, *many, *earlier)[-10:], [-1, -2, -3, -1, -2, -2, -2, -1, -2, 0])

    def test_nothing_to_undo_comes_before_it(self):
        pairs = [set_cell(1, 0, 0, 1, 5), undo(1)] * 2048
        self.assertEqual(ask(*pairs, undo(1), set_cell(1, 0, 0, 0))[-2:], [-2, -5])
