"""Promise 4, move."""

import unittest

from tests.support import (
    COLS, HIGH, LOW, ROWS, ask, begin, book_after, first, line_after, move, places_after, put, remove, state,
    there_after, undo)


def moved(k, n, j):
    return line_after(1, ROWS, begin(6, 1, 1), move(1, ROWS, k, n, j))


class Move(unittest.TestCase):
    def test_answers_n(self):
        self.assertEqual(ask(begin(64, 64, 1), move(1, ROWS, 0, 64, 0), move(1, ROWS, 0, 64, 64),
                             move(1, COLS, 63, 1, 0), move(1, COLS, 0, 1, 64)), [0, 64, 64, 1, 1])

    def test_forth_and_back(self):
        self.assertEqual(moved(1, 2, 4), first(0, 3, 1, 2, 4, 5))
        self.assertEqual(moved(3, 2, 1), first(0, 3, 4, 1, 2, 5))
        self.assertEqual(moved(4, 2, 0), first(4, 5, 0, 1, 2, 3))
        self.assertEqual(moved(0, 2, 6), first(2, 3, 4, 5, 0, 1))

    def test_columns(self):
        calls = [begin(3, 4, 1), move(1, COLS, 0, 1, 3)]
        self.assertEqual(line_after(1, COLS, *calls), first(1, 2, 0, 3))
        self.assertEqual(line_after(1, ROWS, *calls), first(0, 1, 2))

    def test_to_where_they_are(self):
        same = first(0, 1, 2, 3, 4, 5)
        for k, n, j in ((1, 2, 1), (1, 2, 3), (0, 6, 0), (0, 6, 6), (4, 2, 4), (4, 2, 6), (0, 1, 0), (0, 1, 1)):
            self.assertEqual(moved(k, n, j), same)

    def test_such_a_move_is_an_act(self):
        self.assertEqual(ask(begin(3, 3, 1), move(1, ROWS, 1, 2, 1), undo(1), undo(1)), [0, 2, 2, -2])

    def test_new_places(self):
        calls = [begin(4, 1, 1), move(1, ROWS, 0, 2, 3)]
        self.assertEqual(places_after(1, ROWS, *calls), {
            (0, 2): ((2, 0, 2),), (0, 0): ((2, 0, 2), (0, 1, 64)), (0, 1): ((2, 0, 2), (1, 1, 65)),
            (0, 3): ((3, 0, 3),)})
        calls = [begin(4, 1, 1), move(1, ROWS, 1, 2, 1)]
        self.assertEqual(places_after(1, ROWS, *calls), {
            (0, 0): ((0, 0, 0),), (0, 1): ((1, 1, 64),), (0, 2): ((2, 1, 65),), (0, 3): ((3, 0, 3),)})

    def test_without_any_other_in_the_line(self):
        calls = [begin(2, 1, 1), move(1, ROWS, 0, 2, 2)]
        self.assertEqual(places_after(1, ROWS, *calls), {(0, 0): ((0, 1, 64),), (0, 1): ((1, 1, 65),)})

    def test_numbers_stay(self):
        self.assertEqual(line_after(2, ROWS, begin(2, 1, 2), put(2, ROWS, 1, 2), move(2, ROWS, 1, 2, 4)),
                         first(0, 1) + [(2, 64), (2, 65)])

    def test_gone_ones_stay_behind(self):
        calls = [begin(5, 1, 1), remove(1, ROWS, 1, 1), move(1, ROWS, 0, 2, 3)]
        self.assertEqual(line_after(1, ROWS, *calls), first(1, 3, 0, 2, 4))
        self.assertEqual(there_after(1, ROWS, *calls), first(3, 0, 2, 4))

    def test_just_before_it_in_the_line(self):
        calls = [begin(5, 1, 1), remove(1, ROWS, 3, 1), move(1, ROWS, 0, 1, 3)]
        self.assertEqual(line_after(1, ROWS, *calls), first(1, 2, 3, 0, 4))
        self.assertEqual(places_after(1, ROWS, *calls)[(0, 0)], ((3, 0, 3), (0, 1, 128)))

    def test_behind_all_in_the_line(self):
        self.assertEqual(line_after(1, ROWS, begin(4, 1, 1), remove(1, ROWS, 3, 1), move(1, ROWS, 0, 1, 3)),
                         first(1, 2, 3, 0))
        self.assertEqual(line_after(1, ROWS, begin(4, 1, 1), remove(1, ROWS, 3, 1), move(1, ROWS, 2, 1, 2)),
                         first(0, 1, 3, 2))

    def test_before_the_one_behind_them(self):
        # The one behind them is the next that's there, just as the j-th is.
        for j in (0, 1):
            self.assertEqual(line_after(1, ROWS, begin(4, 1, 1), remove(1, ROWS, 1, 1), move(1, ROWS, 0, 1, j)),
                             first(1, 0, 2, 3))

    def test_one_hands_own(self):
        calls = [begin(3, 1, 2), move(1, ROWS, 0, 1, 3)]
        self.assertEqual(line_after(1, ROWS, *calls), first(1, 2, 0))
        self.assertEqual(line_after(2, ROWS, *calls), first(0, 1, 2))

    def test_not_in_range(self):
        for wrong in (0, 2, -1, LOW, HIGH):
            self.assertEqual(ask(move(wrong, ROWS, 0, 1, 0)), [-1])
        for wrong in (-1, 2, LOW, HIGH):
            self.assertEqual(ask(move(1, wrong, 0, 1, 0)), [-1])
        for wrong in (0, -1, 65, LOW, HIGH):
            self.assertEqual(ask(begin(64, 64, 1), put(1, ROWS, 0, 16), move(1, ROWS, 0, wrong, 0)), [0, 16, -1])

    def test_not_so_many(self):
        for k, n in ((0, 4), (1, 3), (3, 1), (-1, 1), (LOW, 1), (HIGH, 1), (HIGH, 64), (LOW, 64)):
            self.assertEqual(ask(begin(3, 64, 1), move(1, ROWS, k, n, 0)), [0, -2])

    def test_no_such_j(self):
        for wrong in (-1, 4, 65, LOW, HIGH):
            self.assertEqual(ask(begin(3, 64, 1), move(1, ROWS, 0, 1, wrong)), [0, -2])
        for j, answer in ((0, 3), (1, 3), (2, -2), (3, -2), (4, 3), (5, 3), (6, -2)):
            self.assertEqual(ask(begin(5, 1, 1), move(1, ROWS, 1, 3, j)), [0, answer])

    def test_one_refusal_before_the_other(self):
        self.assertEqual(ask(move(1, ROWS, 5, 0, 0), move(1, 2, 0, 1, 9), move(2, ROWS, 5, 1, 9)), [-1, -1, -1])

    def test_refused_changes_nothing(self):
        calls = [begin(4, 3, 1), move(1, ROWS, 0, 1, 2)]
        refused = [move(1, ROWS, 0, 3, 1), move(1, ROWS, 0, 5, 0), move(1, ROWS, 0, 1, 5), move(1, 2, 0, 1, 0),
                   move(1, ROWS, 0, 0, 0)]
        self.assertEqual(ask(*calls, *refused, undo(1), undo(1)), [0, 1, -2, -2, -2, -1, -1, 1, -2])
        self.assertEqual(state(book_after(*calls, *refused)), state(book_after(*calls)))
