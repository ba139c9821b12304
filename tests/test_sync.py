"""Promise 9, sync."""

import unittest

from tests.support import (
    COLS, HIGH, LOW, ROWS, acts, ask, begin, book_after, bring, last, move, put, redo, remove, set_cell, sheet_after,
    state, sync, there_after, undo)


def number(hand, z, column=0):
    return set_cell(hand, 0, column, 1, z)


def order_after(hand, *calls):
    """Hand and number of the acts in the copy, in the order in which they came."""
    return [(act.hand, act.number) for act in book_after(*calls).copy_of(hand).came]


class Sync(unittest.TestCase):
    def test_all_of_one_hand(self):
        calls = [begin(1, 2, 2), number(1, 5), number(1, 6, 1), sync(2, 1)]
        self.assertEqual(ask(*calls, sync(2, 1), sync(1, 2)), [0, 0, 0, 2, 0, 0])
        self.assertEqual(sheet_after(2, *calls), [[(1, 5), (1, 6)]])
        self.assertEqual(last(*calls, acts(2)), [2, 0, 2, 0])

    def test_one_way(self):
        calls = [begin(1, 2, 2), number(1, 5), number(2, 6, 1), sync(2, 1)]
        self.assertEqual(ask(*calls), [0, 0, 0, 1])
        self.assertEqual(sheet_after(2, *calls), [[(1, 5), (1, 6)]])
        self.assertEqual(sheet_after(1, *calls), [[(1, 5), (0,)]])

    def test_each_call_that_makes_an_act(self):
        calls = [begin(3, 3, 2), put(1, ROWS, 1, 2), remove(1, COLS, 0, 1), move(1, ROWS, 0, 1, 5),
                 set_cell(1, 0, 1, 1, 8), undo(1), redo(1), sync(2, 1)]
        self.assertEqual(ask(*calls)[-1], 6)
        self.assertEqual(sheet_after(2, *calls), sheet_after(1, *calls))
        self.assertEqual(sheet_after(2, *calls)[0], [(0,), (1, 8)])

    def test_nothing_there(self):
        self.assertEqual(ask(begin(1, 1, 2), sync(1, 2), sync(2, 1), number(1, 5), sync(1, 2)), [0, 0, 0, 0, 0])

    def test_with_oneself(self):
        calls = [begin(1, 1, 2), number(1, 5), number(2, 6), number(2, 7), bring(1, 2, 2)]
        self.assertEqual(ask(sync(1, 1), *calls, sync(1, 1), sync(2, 2))[-2:], [0, 0])
        self.assertEqual(state(book_after(*calls, sync(1, 1), sync(2, 2))), state(book_after(*calls)))
        self.assertEqual(last(*calls, sync(1, 1), acts(1)), [1, 1, 1, 0])

    def test_a_third_hands_acts(self):
        calls = [begin(1, 3, 3), number(3, 3, 2), sync(2, 3), number(2, 2, 1), number(2, 4, 1), sync(1, 2)]
        self.assertEqual(ask(*calls)[-1], 3)
        self.assertEqual(sheet_after(1, *calls), [[(0,), (1, 4), (1, 3)]])
        self.assertEqual(last(*calls, acts(1)), [3, 0, 0, 2, 1])
        self.assertEqual(ask(*calls, sync(1, 3), sync(1, 2), sync(3, 1))[-3:], [0, 0, 2])

    def test_what_waits_there_does_not_come(self):
        calls = [begin(1, 1, 3), number(1, 5), number(1, 6), bring(2, 1, 2), sync(3, 2)]
        self.assertEqual(ask(*calls)[-1], 0)
        self.assertEqual(last(*calls, acts(3)), [0, 0, 0, 0, 0])
        self.assertEqual(last(*calls, acts(2)), [0, 1, 0, 0, 0])

    def test_behind_what_waits(self):
        calls = [begin(1, 1, 2), number(1, 5), number(1, 6), number(1, 7), bring(2, 1, 3), bring(2, 1, 2), sync(2, 1)]
        self.assertEqual(ask(*calls)[-1], 3)
        self.assertEqual(last(*calls, acts(2)), [3, 0, 3, 0])
        self.assertEqual(sheet_after(2, *calls), [[(1, 7)]])

    def test_what_waits_for_anothers_comes_too(self):
        # What hand 2 made isn't in hand 1's copy, but it waits in hand 3's for what comes.
        calls = [begin(1, 2, 3), number(1, 5), sync(2, 1), number(2, 6, 1), bring(3, 2, 1), sync(3, 1)]
        self.assertEqual(ask(*calls)[-1], 2)
        self.assertEqual(last(*calls, acts(3)), [2, 0, 1, 1, 0])
        self.assertEqual(sheet_after(3, *calls), [[(1, 5), (1, 6)]])

    def test_some_wait_on(self):
        calls = [begin(1, 2, 3), number(1, 5), number(2, 6), number(2, 7), number(2, 8), bring(3, 2, 3), sync(1, 2),
                 sync(3, 1)]
        self.assertEqual(ask(*calls)[-1], 4)
        calls = [begin(1, 2, 3), number(1, 5), number(2, 6), number(2, 7), bring(3, 2, 2), sync(3, 1)]
        self.assertEqual(ask(*calls)[-1], 1)
        self.assertEqual(last(*calls, acts(3)), [1, 1, 1, 0, 0])

    def test_in_the_order_in_which_they_came(self):
        calls = [begin(1, 1, 4), number(1, 1), number(2, 2), number(3, 3), number(3, 4), sync(4, 3), sync(4, 1),
                 number(4, 5), sync(4, 2), sync(2, 4)]
        self.assertEqual(order_after(4, *calls), [(3, 1), (3, 2), (1, 1), (4, 1), (2, 1)])
        self.assertEqual(order_after(2, *calls), [(2, 1), (3, 1), (3, 2), (1, 1), (4, 1)])

    def test_what_waits_comes_as_soon_as_it_can(self):
        calls = [begin(1, 1, 3), number(1, 1), sync(2, 1), number(2, 2), number(1, 3), bring(3, 2, 1), sync(3, 1)]
        self.assertEqual(ask(*calls)[-1], 3)
        self.assertEqual(order_after(3, *calls), [(1, 1), (2, 1), (1, 2)])

    def test_hands_one_and_eight(self):
        calls = [begin(1, 1, 8), *[number(hand, hand) for hand in range(1, 9)],
                 *[sync(8, hand) for hand in range(1, 9)], sync(1, 8)]
        self.assertEqual(ask(*calls)[9:], [1] * 7 + [0, 7])
        self.assertEqual(sheet_after(1, *calls), [[(1, 8)]])
        self.assertEqual(last(*calls, acts(1)), [8, 0] + [1] * 8)


class SameSheet(unittest.TestCase):
    def both_see(self, one, two, rows=3, columns=2):
        """What both hands see once each has had the other's acts."""
        calls = [begin(rows, columns, 2), *one, *two, sync(1, 2), sync(2, 1)]
        self.assertEqual(sheet_after(1, *calls), sheet_after(2, *calls))
        self.assertEqual(there_after(1, ROWS, *calls), there_after(2, ROWS, *calls))
        self.assertEqual(there_after(1, COLS, *calls), there_after(2, COLS, *calls))
        return calls

    def test_same_cell(self):
        calls = self.both_see([number(1, 5)], [number(2, 6)])
        self.assertEqual(sheet_after(1, *calls)[0], [(1, 6), (0,)])
        # The later time counts, whoever's it is.
        calls = self.both_see([number(1, 4), number(1, 5)], [number(2, 6)])
        self.assertEqual(sheet_after(1, *calls)[0], [(1, 5), (0,)])

    def test_both_put_in_the_same_place(self):
        calls = self.both_see([put(1, ROWS, 1, 2)], [put(2, ROWS, 1, 1)])
        self.assertEqual(there_after(1, ROWS, *calls), [(0, 0), (1, 64), (2, 64), (1, 65), (0, 1), (0, 2)])

    def test_cells_go_with_their_rows(self):
        calls = self.both_see([put(1, ROWS, 0, 2), move(1, ROWS, 2, 1, 5)], [set_cell(2, 0, 1, 1, 7)])
        self.assertEqual(sheet_after(1, *calls)[4], [(0,), (1, 7)])

    def test_cell_of_a_row_that_another_removed(self):
        calls = self.both_see([remove(1, ROWS, 0, 1)], [set_cell(2, 0, 1, 1, 7)])
        self.assertEqual(sheet_after(1, *calls), [[(0,), (0,)]] * 2)
        calls += [undo(1), sync(2, 1)]
        self.assertEqual(sheet_after(2, *calls), [[(0,), (1, 7)], [(0,), (0,)], [(0,), (0,)]])

    def test_same_row_moved(self):
        calls = self.both_see([move(1, ROWS, 0, 1, 3)], [move(2, ROWS, 0, 1, 2)])
        self.assertEqual(there_after(1, ROWS, *calls), [(0, 1), (0, 0), (0, 2)])

    def test_moved_and_removed(self):
        calls = self.both_see([move(1, ROWS, 0, 2, 3)], [remove(2, ROWS, 0, 1)])
        self.assertEqual(there_after(1, ROWS, *calls), [(0, 2), (0, 1)])

    def test_undone_by_one_of_two(self):
        # Both removed the row: hand 2's counts, hand 1's undo has nothing to take back.
        calls = self.both_see([remove(1, ROWS, 0, 1)], [remove(2, ROWS, 0, 1)])
        self.assertEqual(ask(*calls, undo(1), undo(2))[-2:], [0, 1])
        self.assertEqual(there_after(1, ROWS, *calls, undo(1)), [(0, 1), (0, 2)])
        self.assertEqual(there_after(2, ROWS, *calls, undo(2)), [(0, 0), (0, 1), (0, 2)])


class Refused(unittest.TestCase):
    def test_no_such_hand(self):
        for wrong in (0, 3, -1, LOW, HIGH):
            self.assertEqual(ask(begin(1, 1, 2), number(1, 5), sync(wrong, 1), sync(2, wrong), sync(wrong, wrong))[2:],
                             [-1, -1, -1])

    def test_refused_changes_nothing(self):
        calls = [begin(1, 1, 2), number(1, 5), number(2, 6), number(2, 7), bring(1, 2, 2)]
        refused = [sync(1, 3), sync(0, 2), sync(3, 3), sync(HIGH, LOW)]
        self.assertEqual(ask(*calls, *refused)[-4:], [-1] * 4)
        self.assertEqual(state(book_after(*calls, *refused)), state(book_after(*calls)))
