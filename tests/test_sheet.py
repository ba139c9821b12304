"""Promise 10, sheet, and what a cell shows."""

import unittest

from tests.support import (
    COLS, HIGH, LOW, ROWS, ask_all, begin, book_after, last, move, put, redo, remove, set_cell, sheet, sheet_after,
    state, sync, undo)

NONE = (0,)
LOST = (4,)


class Sheet(unittest.TestCase):
    def test_at_the_beginning(self):
        self.assertEqual(last(sheet(1)), [0, 1, 1, 0])
        self.assertEqual(last(begin(2, 3, 1), sheet(1)), [0, 2, 3, 0, 0, 0, 0, 0, 0])

    def test_each_kind_row_by_row(self):
        self.assertEqual(
            last(begin(2, 3, 1), set_cell(1, 0, 0, 1, 7), set_cell(1, 0, 1, 2, 0, 0, 1, 2),
                 set_cell(1, 0, 2, 3, 4, 1, 2, 5), set_cell(1, 1, 0, 0), set_cell(1, 1, 2, 1, -9), sheet(1)),
            [0, 2, 3, 1, 7, 2, 0, 0, 1, 2, 3, 4, 1, 2, 5, 0, 0, 1, -9])

    def test_lost_is_one_number(self):
        self.assertEqual(
            last(begin(2, 2, 1), set_cell(1, 0, 0, 2, 1, 0, 1, 1), set_cell(1, 0, 1, 3, 4, 1, 1, 5),
                 remove(1, ROWS, 1, 1), sheet(1)),
            [0, 1, 2, 4, 4])

    def test_numbers_at_the_ends(self):
        self.assertEqual(
            sheet_after(1, begin(1, 4, 1), set_cell(1, 0, 0, 1, LOW), set_cell(1, 0, 1, 1, HIGH),
                        set_cell(1, 0, 2, 3, LOW, 0, 3, HIGH), set_cell(1, 0, 3, 3, HIGH, 0, 0, LOW)),
            [[(1, LOW), (1, HIGH), (3, LOW, 0, 3, HIGH), (3, HIGH, 0, 0, LOW)]])

    def test_greatest_first_sheet(self):
        answer = last(begin(64, 64, 8), set_cell(8, 63, 63, 1, 5), sheet(8))
        self.assertEqual(answer, [0, 64, 64] + [0] * 4095 + [1, 5])

    def test_many_rows_and_columns(self):
        calls = [begin(64, 64, 1), *[put(1, axis, 0, 16) for k in range(10) for axis in (ROWS, COLS)],
                 set_cell(1, 223, 0, 2, 0, 223, 223, 0), sheet(1)]
        self.assertEqual(last(*calls), [0, 224, 224] + [0] * (223 * 224) + [2, 0, 0, 223, 223] + [0] * 223)

    def test_none_is_there(self):
        self.assertEqual(last(begin(2, 3, 1), remove(1, ROWS, 0, 2), sheet(1)), [0, 0, 3])
        self.assertEqual(last(begin(2, 3, 1), remove(1, COLS, 0, 3), sheet(1)), [0, 2, 0])
        self.assertEqual(last(begin(2, 3, 1), set_cell(1, 0, 0, 1, 5), remove(1, COLS, 0, 3), remove(1, ROWS, 0, 2),
                              sheet(1)), [0, 0, 0])

    def test_none_is_there_and_one_again(self):
        calls = [begin(1, 1, 1), set_cell(1, 0, 0, 1, 5), remove(1, ROWS, 0, 1), put(1, ROWS, 0, 1)]
        self.assertEqual(sheet_after(1, *calls), [[NONE]])
        self.assertEqual(sheet_after(1, *calls, undo(1), undo(1)), [[(1, 5)]])

    def test_each_hands_own(self):
        calls = [begin(1, 2, 2), set_cell(1, 0, 0, 1, 5), set_cell(2, 0, 1, 1, 6), put(2, ROWS, 0, 1)]
        self.assertEqual(sheet_after(1, *calls), [[(1, 5), NONE]])
        self.assertEqual(sheet_after(2, *calls), [[NONE, NONE], [NONE, (1, 6)]])

    def test_cells_go_with_rows_and_columns(self):
        calls = [begin(2, 2, 1), set_cell(1, 0, 0, 1, 5), set_cell(1, 1, 1, 1, 6)]
        self.assertEqual(sheet_after(1, *calls, put(1, ROWS, 1, 1), move(1, COLS, 0, 1, 2)),
                         [[NONE, (1, 5)], [NONE, NONE], [(1, 6), NONE]])
        self.assertEqual(sheet_after(1, *calls, remove(1, COLS, 0, 1)), [[NONE], [(1, 6)]])

    def test_no_such_hand(self):
        for wrong in (0, 3, -1, LOW, HIGH):
            self.assertEqual(last(begin(2, 2, 2), sheet(wrong)), [-1])

    def test_it_changes_nothing(self):
        calls = [begin(3, 3, 2), set_cell(1, 0, 0, 2, 0, 0, 2, 2), move(1, ROWS, 0, 1, 3), undo(1), put(2, COLS, 0, 2)]
        looks = [sheet(1), sheet(2), sheet(3), sheet(0)]
        self.assertEqual(state(book_after(*calls, *looks)), state(book_after(*calls)))
        asked = ask_all(*calls, *looks, *looks)
        self.assertEqual(asked[5:9], asked[9:])
        self.assertEqual(ask_all(*calls, *looks, redo(1))[-1], [1])


def rows_of(one, other, *calls):
    """The first and last row shown of an area of rows in a sheet of 6 rows, told by a cell in the last, or LOST."""
    cell = sheet_after(1, begin(6, 1, 1), set_cell(1, 5, 0, 2, one, 0, other, 0), *calls)[-1][0]
    return cell if cell == LOST else (cell[1], cell[3])


def columns_of(one, other, *calls):
    cell = sheet_after(1, begin(1, 6, 1), set_cell(1, 0, 5, 2, 0, one, 0, other), *calls)[0][-1]
    return cell if cell == LOST else (cell[2], cell[4])


class Areas(unittest.TestCase):
    def both_ways(self, one, other, calls_of_axis, shown):
        for find, axis in ((rows_of, ROWS), (columns_of, COLS)):
            calls = calls_of_axis(axis)
            self.assertEqual(find(one, other, *calls), shown)
            self.assertEqual(find(other, one, *calls), shown)

    def test_corners_whichever_comes_first(self):
        for content in ((2, 0, 1, 1, 2), (2, 1, 2, 0, 1), (2, 0, 2, 1, 1), (2, 1, 1, 0, 2)):
            self.assertEqual(sheet_after(1, begin(2, 3, 1), set_cell(1, 0, 0, *content))[0][0], (2, 0, 1, 1, 2))

    def test_one_cell(self):
        self.assertEqual(sheet_after(1, begin(2, 3, 1), set_cell(1, 0, 0, 2, 1, 2, 1, 2))[0][0], (2, 1, 2, 1, 2))

    def test_grows(self):
        self.both_ways(1, 3, lambda axis: [put(1, axis, 2, 4)], (1, 7))
        self.both_ways(1, 3, lambda axis: [put(1, axis, 3, 1), put(1, axis, 2, 1)], (1, 5))

    def test_does_not_grow_beyond_its_corners(self):
        self.both_ways(1, 3, lambda axis: [put(1, axis, 4, 1)], (1, 3))
        self.both_ways(1, 3, lambda axis: [put(1, axis, 1, 1)], (2, 4))

    def test_shrinks(self):
        self.both_ways(1, 3, lambda axis: [remove(1, axis, 2, 1)], (1, 2))
        self.both_ways(1, 3, lambda axis: [remove(1, axis, 0, 1)], (0, 2))
        self.both_ways(1, 3, lambda axis: [remove(1, axis, 4, 1)], (1, 3))

    def test_corners_are_gone(self):
        self.both_ways(1, 3, lambda axis: [remove(1, axis, 1, 1)], (1, 2))
        self.both_ways(1, 3, lambda axis: [remove(1, axis, 3, 1)], (1, 2))
        self.both_ways(1, 3, lambda axis: [remove(1, axis, 3, 1), remove(1, axis, 1, 1)], (1, 1))

    def test_gone_corners_still_bound_it(self):
        # What is put in between two gone corners is in the area, what is put beyond them isn't.
        self.both_ways(1, 3, lambda axis: [remove(1, axis, 3, 1), remove(1, axis, 1, 1), put(1, axis, 1, 2)], (1, 3))
        self.both_ways(1, 3, lambda axis: [remove(1, axis, 3, 1), remove(1, axis, 1, 1), put(1, axis, 2, 2)], (1, 1))

    def test_none_is_there(self):
        self.both_ways(1, 3, lambda axis: [remove(1, axis, 1, 3)], LOST)
        self.both_ways(2, 2, lambda axis: [remove(1, axis, 2, 1)], LOST)
        self.both_ways(0, 4, lambda axis: [remove(1, axis, 0, 5)], LOST)

    def test_there_again(self):
        self.both_ways(1, 3, lambda axis: [remove(1, axis, 1, 3), undo(1)], (1, 3))
        self.both_ways(1, 3, lambda axis: [remove(1, axis, 1, 3), undo(1), redo(1)], LOST)

    def test_none_of_one_axis_alone(self):
        calls = [begin(3, 3, 1), set_cell(1, 2, 2, 2, 0, 0, 1, 1)]
        self.assertEqual(sheet_after(1, *calls, remove(1, ROWS, 0, 2))[0][2], LOST)
        self.assertEqual(sheet_after(1, *calls, remove(1, COLS, 0, 2))[2][0], LOST)
        self.assertEqual(sheet_after(1, *calls, remove(1, ROWS, 0, 2), remove(1, COLS, 0, 2)), [[LOST]])
        self.assertEqual(sheet_after(1, *calls, remove(1, ROWS, 0, 1), remove(1, COLS, 1, 1))[1][1], (2, 0, 0, 0, 0))

    def test_moved_past_one_another(self):
        # 0 2 3 1 4 5: from 2 to 1.
        self.both_ways(1, 2, lambda axis: [move(1, axis, 1, 1, 4)], (1, 3))
        # 0 3 1 2 4 5: from 3 to 1.
        self.both_ways(1, 3, lambda axis: [move(1, axis, 3, 1, 1)], (1, 2))

    def test_corner_moved_away(self):
        # 1 2 3 4 0 5
        self.both_ways(0, 1, lambda axis: [move(1, axis, 0, 1, 5)], (0, 4))
        self.both_ways(0, 1, lambda axis: [move(1, axis, 0, 1, 5), undo(1)], (0, 1))

    def test_moved_in_and_out_of_it(self):
        self.both_ways(1, 3, lambda axis: [move(1, axis, 0, 1, 3)], (0, 3))
        self.both_ways(1, 3, lambda axis: [move(1, axis, 2, 1, 0)], (2, 3))

    def test_moved_as_a_whole(self):
        self.both_ways(1, 2, lambda axis: [move(1, axis, 1, 2, 5)], (3, 4))


class WithoutAPlace(unittest.TestCase):
    def calls(self, axis, *content):
        """Hand 1 puts one in ahead of all; hand 2 tells it in its cell; hand 1 takes it back."""
        told = [begin(2, 2, 2), put(1, axis, 0, 1), sync(2, 1), set_cell(2, 1, 1, *content)]
        return told, [*told, undo(1), sync(2, 1), sync(1, 2)]

    def lost_then_there(self, axis, content, shown):
        told, undone = self.calls(axis, *content)
        self.assertEqual(sheet_after(2, *told)[1][1], shown)
        for hand in (1, 2):
            rows = sheet_after(hand, *undone)
            self.assertEqual((len(rows), len(rows[0])), (2, 2))
            self.assertEqual(rows[0 if axis == ROWS else 1][1 if axis == ROWS else 0], LOST)
        again = [*undone, redo(1), sync(2, 1)]
        for hand in (1, 2):
            self.assertEqual(sheet_after(hand, *again)[1][1], shown)

    def test_one_corner(self):
        self.lost_then_there(ROWS, (2, 0, 0, 1, 1), (2, 0, 0, 1, 1))
        self.lost_then_there(COLS, (2, 0, 0, 1, 1), (2, 0, 0, 1, 1))

    def test_the_other_corner(self):
        self.lost_then_there(ROWS, (2, 2, 1, 0, 0), (2, 0, 0, 2, 1))
        self.lost_then_there(COLS, (2, 1, 2, 0, 0), (2, 0, 0, 1, 2))

    def test_both_corners(self):
        self.lost_then_there(ROWS, (2, 0, 0, 0, 1), (2, 0, 0, 0, 1))
        self.lost_then_there(COLS, (2, 0, 0, 1, 0), (2, 0, 0, 1, 0))

    def test_cell_told_by_its_row_and_column(self):
        self.lost_then_there(ROWS, (3, 7, 0, 1, 8), (3, 7, 0, 1, 8))
        self.lost_then_there(COLS, (3, 7, 1, 0, 8), (3, 7, 1, 0, 8))

    def test_between_the_corners(self):
        # One without a place between two corners is not of the area any more.
        calls = [begin(2, 1, 2), put(1, ROWS, 1, 3), sync(2, 1), set_cell(2, 0, 0, 2, 0, 0, 4, 0)]
        self.assertEqual(sheet_after(2, *calls)[0][0], (2, 0, 0, 4, 0))
        self.assertEqual(sheet_after(2, *calls, undo(1), sync(2, 1)), [[(2, 0, 0, 1, 0)], [NONE]])

    def test_gone_too(self):
        calls = [begin(2, 1, 2), put(1, ROWS, 0, 1), sync(2, 1), set_cell(2, 1, 0, 2, 0, 0, 1, 0),
                 remove(2, ROWS, 0, 1)]
        self.assertEqual(sheet_after(2, *calls), [[(2, 0, 0, 0, 0)], [NONE]])
        self.assertEqual(sheet_after(2, *calls, undo(1), sync(2, 1)), [[LOST], [NONE]])

    def test_cell_of_such_a_row_is_not_shown(self):
        calls = [begin(1, 1, 2), put(1, ROWS, 0, 1), sync(2, 1), set_cell(2, 0, 0, 1, 5), undo(1), sync(2, 1)]
        self.assertEqual(sheet_after(2, *calls), [[NONE]])
        self.assertEqual(sheet_after(2, *calls, redo(1), sync(2, 1)), [[(1, 5)], [NONE]])


class Pointers(unittest.TestCase):
    calls = [begin(3, 3, 1), set_cell(1, 2, 2, 3, -4, 0, 1, 9)]

    def test_it_goes_along(self):
        self.assertEqual(sheet_after(1, *self.calls)[2][2], (3, -4, 0, 1, 9))
        self.assertEqual(sheet_after(1, *self.calls, put(1, ROWS, 0, 2), put(1, COLS, 1, 1))[4][3], (3, -4, 2, 2, 9))
        self.assertEqual(sheet_after(1, *self.calls, move(1, ROWS, 0, 1, 2))[2][2], (3, -4, 1, 1, 9))
        self.assertEqual(sheet_after(1, *self.calls, remove(1, COLS, 0, 1))[2][1], (3, -4, 0, 0, 9))

    def test_row_or_column_is_gone(self):
        self.assertEqual(sheet_after(1, *self.calls, remove(1, ROWS, 0, 1))[1][2], LOST)
        self.assertEqual(sheet_after(1, *self.calls, remove(1, COLS, 1, 1))[2][1], LOST)
        self.assertEqual(sheet_after(1, *self.calls, remove(1, COLS, 1, 1), undo(1))[2][2], (3, -4, 0, 1, 9))

    def test_its_own_cell(self):
        self.assertEqual(sheet_after(1, set_cell(1, 0, 0, 3, 0, 0, 0, 0)), [[(3, 0, 0, 0, 0)]])
