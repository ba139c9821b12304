"""Promise 7, redo, and what promise 6 tells of it."""

import unittest

from tests.support import (
    COLS, HIGH, LOW, ROWS, acts, ask, begin, book_after, cell_after, first, last, line_after, move, put, redo, remove,
    set_cell, sheet_after, state, sync, there_after, undo)

FIRST_CELL = ((0, 0), (0, 0))


class RedoOfEach(unittest.TestCase):
    def test_put(self):
        for axis in (ROWS, COLS):
            calls = [begin(2, 2, 1), put(1, axis, 1, 3), undo(1), redo(1)]
            self.assertEqual(ask(*calls), [0, 3, 3, 3])
            self.assertEqual(line_after(1, axis, *calls), [(0, 0), (1, 64), (1, 65), (1, 66), (0, 1)])
            self.assertEqual(state(book_after(*calls))[0][2], state(book_after(*calls[:2]))[0][2])

    def test_remove(self):
        for axis in (ROWS, COLS):
            calls = [begin(64, 64, 1), remove(1, axis, 0, 63), undo(1), redo(1)]
            self.assertEqual(ask(*calls), [0, 63, 63, 63])
            self.assertEqual(there_after(1, axis, *calls), first(63))
            self.assertEqual(line_after(1, axis, *calls), first(*range(64)))

    def test_move(self):
        for axis in (ROWS, COLS):
            calls = [begin(5, 5, 1), move(1, axis, 0, 2, 4), undo(1), redo(1)]
            self.assertEqual(ask(*calls), [0, 2, 2, 2])
            self.assertEqual(line_after(1, axis, *calls), first(2, 3, 0, 1, 4))
            self.assertEqual(state(book_after(*calls))[0][2], state(book_after(*calls[:2]))[0][2])

    def test_set(self):
        for content in ((0,), (1, HIGH), (2, 0, 0, 1, 1), (3, LOW, 1, 0, HIGH)):
            calls = [begin(2, 2, 1), set_cell(1, 1, 1, *content), undo(1), redo(1)]
            self.assertEqual(ask(*calls), [0, 0, 1, 1])
            self.assertEqual(sheet_after(1, *calls), [[(0,), (0,)], [(0,), content]])

    def test_set_over_another(self):
        calls = [set_cell(1, 0, 0, 1, 5), set_cell(1, 0, 0, 1, 6), undo(1)]
        self.assertEqual(sheet_after(1, *calls), [[(1, 5)]])
        self.assertEqual(ask(*calls, redo(1)), [0, 0, 1, 1])
        self.assertEqual(sheet_after(1, *calls, redo(1)), [[(1, 6)]])

    def test_undo_and_redo_in_turns(self):
        makers = (put(1, ROWS, 1, 2), remove(1, ROWS, 0, 2), move(1, ROWS, 0, 2, 3), set_cell(1, 2, 1, 1, 5))
        for maker, many in zip(makers, (2, 2, 2, 1)):
            done = sheet_after(1, begin(3, 2, 1), maker)
            calls = [begin(3, 2, 1), maker]
            for turn in range(4):
                calls += [undo(1)]
                self.assertEqual(sheet_after(1, *calls), [[(0,), (0,)]] * 3)
                calls += [redo(1)]
                self.assertEqual(sheet_after(1, *calls), done)
            self.assertEqual(ask(*calls)[2:], [many] * 8)
            self.assertEqual(ask(*calls, redo(1))[-1], -2)


class RedoOfSeveral(unittest.TestCase):
    calls = [begin(2, 2, 1), put(1, ROWS, 0, 3), remove(1, COLS, 0, 1), set_cell(1, 0, 0, 1, 4)]

    def test_last_undone_first(self):
        self.assertEqual(
            ask(*self.calls, undo(1), undo(1), undo(1), undo(1), redo(1), redo(1), redo(1), redo(1))[4:],
            [1, 1, 3, -2, 3, 1, 1, -2])

    def test_redone_can_be_undone(self):
        # The three are redone and undone again, each by another number of writes.
        self.assertEqual(
            ask(*self.calls, undo(1), undo(1), undo(1), redo(1), redo(1), undo(1), redo(1), redo(1), undo(1), undo(1),
                undo(1), undo(1))[4:],
            [1, 1, 3, 3, 1, 1, 1, 1, 1, 1, 3, -2])

    def test_redo_is_not_redone(self):
        self.assertEqual(ask(set_cell(1, 0, 0, 1, 5), undo(1), redo(1), redo(1)), [0, 1, 1, -2])

    def test_nothing_behind_a_new_act(self):
        for maker in (put(1, ROWS, 1, 2), remove(1, ROWS, 0, 2), move(1, ROWS, 0, 2, 3), set_cell(1, 2, 1, 0)):
            self.assertEqual(
                ask(begin(3, 2, 1), set_cell(1, 0, 0, 1, 5), set_cell(1, 0, 1, 1, 5), undo(1), undo(1), maker, redo(1),
                    undo(1), redo(1), redo(1))[6:],
                [-2, ask(begin(3, 2, 1), maker, undo(1))[2], ask(begin(3, 2, 1), maker, undo(1))[2], -2])

    def test_new_act_behind_a_redo(self):
        calls = [begin(1, 3, 1), set_cell(1, 0, 0, 1, 5), set_cell(1, 0, 1, 1, 6), undo(1), undo(1), redo(1),
                 set_cell(1, 0, 2, 1, 7)]
        self.assertEqual(sheet_after(1, *calls), [[(1, 5), (0,), (1, 7)]])
        self.assertEqual(ask(*calls, redo(1), undo(1), undo(1), undo(1))[7:], [-2, 1, 1, -2])
        self.assertEqual(sheet_after(1, *calls, undo(1)), [[(1, 5), (0,), (0,)]])
        self.assertEqual(sheet_after(1, *calls, undo(1), undo(1)), [[(0,), (0,), (0,)]])

    def test_refused_act_leaves_what_can_be_redone(self):
        self.assertEqual(ask(set_cell(1, 0, 0, 1, 5), undo(1), put(1, ROWS, 2, 1), set_cell(1, 0, 0, 9), redo(1)),
                         [0, 1, -2, -3, 1])

    def test_undo_without_writes(self):
        # The second undo finds nothing of the first set that counts; its redo has nothing either, and is an act.
        calls = [set_cell(1, 0, 0, 1, 5), set_cell(1, 0, 0, 1, 6), undo(1), undo(1)]
        self.assertEqual(ask(*calls, redo(1), redo(1), redo(1)), [0, 0, 1, 0, 0, 1, -2])
        self.assertEqual(cell_after(1, *FIRST_CELL, *calls, redo(1)), (1, 5))
        self.assertEqual(cell_after(1, *FIRST_CELL, *calls, redo(1), redo(1)), (1, 6))
        self.assertEqual(last(*calls, redo(1), redo(1), acts(1)), [6, 0, 6])

    def test_undo_of_a_redo_without_writes(self):
        calls = [set_cell(1, 0, 0, 1, 5), set_cell(1, 0, 0, 1, 6), undo(1), undo(1), redo(1), undo(1), undo(1)]
        self.assertEqual(ask(*calls), [0, 0, 1, 0, 0, 0, -2])


class RedoOfHands(unittest.TestCase):
    def test_each_its_own(self):
        self.assertEqual(
            ask(begin(2, 2, 3), put(1, ROWS, 0, 2), remove(2, COLS, 0, 1), undo(1), redo(2), undo(2), redo(3), redo(2),
                redo(1)),
            [0, 2, 1, 2, -2, 1, -2, 1, 2])

    def test_others_acts_leave_what_can_be_redone(self):
        calls = [begin(1, 2, 2), set_cell(1, 0, 0, 1, 5), undo(1), set_cell(2, 0, 1, 1, 6), sync(1, 2), redo(1)]
        self.assertEqual(ask(*calls), [0, 0, 1, 0, 1, 1])
        self.assertEqual(sheet_after(1, *calls), [[(1, 5), (1, 6)]])

    def test_what_another_wrote_stays(self):
        calls = [begin(1, 1, 2), set_cell(1, 0, 0, 1, 5), undo(1), sync(2, 1), set_cell(2, 0, 0, 1, 7), sync(1, 2),
                 redo(1)]
        self.assertEqual(ask(*calls), [0, 0, 1, 2, 0, 1, 0])
        self.assertEqual(sheet_after(1, *calls), [[(1, 7)]])
        self.assertEqual(last(*calls, acts(1)), [4, 0, 3, 1])

    def test_undo_leaves_what_another_wrote(self):
        calls = [begin(1, 1, 2), set_cell(1, 0, 0, 1, 5), sync(2, 1), set_cell(2, 0, 0, 1, 7), sync(1, 2), undo(1)]
        self.assertEqual(ask(*calls), [0, 0, 1, 0, 1, 0])
        self.assertEqual(sheet_after(1, *calls), [[(1, 7)]])

    def test_undo_writes_what_the_act_knew(self):
        # Hand 1's content came later and never counted, and hand 2's act did not know it.
        calls = [begin(1, 1, 2), set_cell(1, 0, 0, 1, 5), set_cell(2, 0, 0, 1, 6), sync(2, 1), undo(2)]
        self.assertEqual(ask(*calls), [0, 0, 0, 1, 1])
        self.assertEqual(sheet_after(2, *calls), [[(0,)]])
        self.assertEqual(sheet_after(2, *calls, redo(2)), [[(1, 6)]])

    def test_undo_and_redo_give_back_anothers(self):
        calls = [begin(1, 1, 2), set_cell(1, 0, 0, 1, 5), sync(2, 1), set_cell(2, 0, 0, 1, 6), undo(2), sync(1, 2)]
        self.assertEqual(ask(*calls), [0, 0, 1, 0, 1, 2])
        self.assertEqual(sheet_after(1, *calls), [[(1, 5)]])
        self.assertEqual(sheet_after(1, *calls, redo(2), sync(1, 2)), [[(1, 6)]])

    def test_of_what_the_act_knew_the_latest(self):
        # Both hands' contents were known: hand 1's is the later one, though hand 2's is the greater hand.
        calls = [begin(1, 1, 3), set_cell(2, 0, 0, 1, 6), sync(1, 2), set_cell(1, 0, 0, 1, 5), sync(3, 1),
                 set_cell(3, 0, 0, 1, 7), undo(3)]
        self.assertEqual(sheet_after(3, *calls), [[(1, 5)]])
        self.assertEqual(sheet_after(3, *calls, redo(3)), [[(1, 7)]])
        # Of the same time the greater hand's.
        calls = [begin(1, 1, 3), set_cell(2, 0, 0, 1, 6), set_cell(1, 0, 0, 1, 5), sync(3, 2), sync(3, 1),
                 set_cell(3, 0, 0, 1, 7), undo(3)]
        self.assertEqual(sheet_after(3, *calls), [[(1, 6)]])

    def test_some_of_the_writes_count(self):
        # Hand 2 moved one of the three that hand 1 put: that write of the undo is not hand 1's to redo.
        calls = [begin(1, 1, 2), put(1, ROWS, 1, 3), sync(2, 1), move(2, ROWS, 3, 1, 0), sync(1, 2), undo(1), redo(1)]
        self.assertEqual(ask(*calls), [0, 3, 1, 1, 1, 2, 2])
        self.assertEqual(line_after(1, ROWS, *calls[:-1]), [(1, 66), (0, 0)])
        self.assertEqual(line_after(1, ROWS, *calls), [(1, 66), (0, 0), (1, 64), (1, 65)])

    def test_eighth_hand(self):
        self.assertEqual(ask(begin(1, 1, 8), set_cell(8, 0, 0, 1, 5), undo(8), redo(8), redo(8), redo(7)),
                         [0, 0, 1, 1, -2, -2])


class Refused(unittest.TestCase):
    def test_no_such_hand(self):
        for wrong in (0, 2, -1, LOW, HIGH):
            self.assertEqual(ask(set_cell(1, 0, 0, 0), undo(1), redo(wrong)), [0, 1, -1])
        for wrong in (0, 9, LOW, HIGH):
            self.assertEqual(ask(begin(1, 1, 8), redo(wrong)), [0, -1])

    def test_nothing_to_redo(self):
        self.assertEqual(ask(redo(1), set_cell(1, 0, 0, 0), redo(1), undo(1), redo(1), redo(1)), [-2, 0, -2, 1, 1, -2])

    def test_again_begun(self):
        self.assertEqual(ask(set_cell(1, 0, 0, 0), undo(1), begin(1, 1, 1), redo(1)), [0, 1, 0, -2])

    def test_refused_changes_nothing(self):
        calls = [begin(2, 2, 2), put(1, ROWS, 0, 2), undo(1), redo(1)]
        refused = [redo(1), redo(2), redo(3), redo(0)]
        self.assertEqual(ask(*calls, *refused), [0, 2, 2, 2, -2, -2, -1, -1])
        self.assertEqual(state(book_after(*calls, *refused)), state(book_after(*calls)))


class MostActs(unittest.TestCase):
    def test_redo_is_the_last_or_refused(self):
        many = [set_cell(1, 0, 0, 1, 5)] * 4094
        self.assertEqual(ask(*many, undo(1), redo(1), undo(1))[-3:], [1, 1, -5])
        self.assertEqual(ask(*many, set_cell(1, 0, 0, 0), undo(1), redo(1), redo(2))[-3:], [1, -5, -1])

    def test_nothing_to_redo_comes_before_it(self):
        self.assertEqual(ask(*[set_cell(1, 0, 0, 1, 5)] * 4096, redo(1), undo(1))[-2:], [-2, -5])
