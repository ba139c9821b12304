"""Promise 11, passed."""

import unittest

from tests.support import (
    COLS, HIGH, LOW, ROWS, ask_all, begin, book_after, bring, last, move, passed, passed_after, put, redo, remove,
    set_cell, sheet_after, state, sync, undo)

A = 0
B = 1
C = 2


def number(hand, column, z=5):
    return set_cell(hand, 0, column, 1, z)


def told_to_both(test, one, two):
    """What both of two hands are told once each has had the other's acts."""
    calls = [begin(4, 4, 2), *one, *two, sync(1, 2), sync(2, 1)]
    test.assertEqual(passed_after(1, *calls), passed_after(2, *calls))
    return passed_after(1, *calls)


class Passed(unittest.TestCase):
    def test_nothing(self):
        self.assertEqual(last(passed(1)), [0])
        self.assertEqual(last(begin(1, 1, 8), passed(8)), [0])

    def test_ones_own_are_known(self):
        calls = [begin(3, 3, 1), number(1, A), number(1, A), undo(1), redo(1), remove(1, ROWS, 0, 1), undo(1),
                 move(1, COLS, 0, 2, 3), move(1, COLS, 0, 3, 3)]
        self.assertEqual(last(*calls, passed(1)), [0])

    def test_same_cell(self):
        calls = [begin(1, 1, 2), number(1, A, 5), number(2, A, 6), sync(1, 2)]
        self.assertEqual(last(*calls, passed(1)), [1, 1, 1, 4, 2, 1])
        self.assertEqual(last(*calls, passed(2)), [0])
        self.assertEqual(last(*calls, sync(2, 1), passed(2)), [1, 1, 1, 4, 2, 1])

    def test_same_content_too(self):
        self.assertEqual(told_to_both(self, [number(1, A, 5)], [number(2, A, 5)]), [(1, 1, 4, 2, 1)])

    def test_greater_hand_or_later_time(self):
        self.assertEqual(told_to_both(self, [number(1, A)], [number(2, B), number(2, A)]), [(1, 1, 4, 2, 2)])
        self.assertEqual(told_to_both(self, [number(1, B), number(1, A)], [number(2, A)]), [(2, 1, 4, 1, 2)])

    def test_other_cells(self):
        self.assertEqual(told_to_both(self, [number(1, A)], [number(2, B)]), [])

    def test_place_of_a_row_or_column(self):
        for axis, what in ((ROWS, 0), (COLS, 2)):
            self.assertEqual(told_to_both(self, [move(1, axis, 0, 1, 3)], [move(2, axis, 0, 1, 2)]),
                             [(1, 1, what, 2, 1)])
            self.assertEqual(told_to_both(self, [move(1, axis, 0, 3, 4)], [move(2, axis, 1, 3, 0)]),
                             [(1, 1, what, 2, 1)] * 2)

    def test_row_or_column_gone(self):
        for axis, what in ((ROWS, 1), (COLS, 3)):
            self.assertEqual(told_to_both(self, [remove(1, axis, 0, 1)], [remove(2, axis, 0, 1)]),
                             [(1, 1, what, 2, 1)])
            self.assertEqual(told_to_both(self, [remove(1, axis, 0, 2)], [remove(2, axis, 1, 2)]),
                             [(1, 1, what, 2, 1)])

    def test_place_and_gone_are_not_the_same(self):
        self.assertEqual(told_to_both(self, [move(1, ROWS, 0, 1, 3)], [remove(2, ROWS, 0, 1)]), [])
        self.assertEqual(told_to_both(self, [number(1, A)], [remove(2, ROWS, 0, 1)]), [])
        self.assertEqual(told_to_both(self, [move(1, ROWS, 0, 1, 3)], [move(2, COLS, 0, 1, 3)]), [])

    def test_new_ones_are_ones_own(self):
        self.assertEqual(told_to_both(self, [put(1, ROWS, 0, 2)], [put(2, ROWS, 0, 2)]), [])

    def test_the_one_that_counts_knew(self):
        calls = [begin(1, 1, 2), number(1, A), sync(2, 1), number(2, A), sync(1, 2)]
        self.assertEqual(last(*calls, passed(1)), [0])
        self.assertEqual(last(*calls, passed(2)), [0])

    def test_a_later_one_knew_both(self):
        calls = [begin(1, 1, 3), number(1, A), number(2, A), sync(1, 2)]
        self.assertEqual(passed_after(1, *calls), [(1, 1, 4, 2, 1)])
        self.assertEqual(passed_after(1, *calls, number(1, A)), [])
        # Hand 3 has had the two alone until the third comes.
        both = [*calls, sync(3, 1), number(1, A)]
        self.assertEqual(passed_after(3, *both), [(1, 1, 4, 2, 1)])
        self.assertEqual(passed_after(3, *both, bring(3, 1, 2)), [])

    def test_knew_one_of_two(self):
        # Hand 3's is the latest and knows of hand 1's, not of hand 2's.
        calls = [begin(1, 3, 3), number(1, A), number(2, A), sync(3, 1), number(3, A), sync(3, 2)]
        self.assertEqual(passed_after(3, *calls), [(2, 1, 4, 3, 1)])

    def test_neither_was_known(self):
        calls = [begin(1, 3, 3), number(1, A), sync(2, 1), number(2, A), number(3, C), number(3, C), number(3, A),
                 sync(1, 2), sync(1, 3)]
        self.assertEqual(passed_after(1, *calls), [(1, 1, 4, 3, 3), (2, 1, 4, 3, 3)])

    def test_in_order_of_hands_then_acts(self):
        calls = [begin(1, 3, 3), number(3, C), number(3, C), number(3, B), number(3, A), number(1, A), number(1, B),
                 number(2, B)]
        told = [(1, 1, 4, 3, 4), (1, 2, 4, 3, 3), (2, 1, 4, 3, 3)]
        self.assertEqual(passed_after(2, *calls, sync(2, 3), sync(2, 1)), told)
        self.assertEqual(passed_after(2, *calls, sync(2, 1), sync(2, 3)), told)
        self.assertEqual(passed_after(3, *calls, sync(3, 2), sync(3, 1)), told)

    def test_in_order_of_writes(self):
        for one, other in ((2, 3), (3, 2)):
            calls = [begin(4, 1, 3), move(1, ROWS, 0, 2, 3), move(one, ROWS, 0, 1, 4), move(other, ROWS, 1, 1, 4),
                     sync(1, 2), sync(1, 3)]
            self.assertEqual(passed_after(1, *calls), [(1, 1, 0, one, 1), (1, 1, 0, other, 1)])

    def test_in_order_of_acts_beyond_nine(self):
        calls = [begin(1, 1, 2), *[remove(1, ROWS, 0, 1), undo(1)] * 6, *[remove(2, ROWS, 0, 1)], sync(2, 1)]
        # Hand 1's twelfth act is the latest and knows its own alone.
        self.assertEqual(passed_after(2, *calls), [(2, 1, 1, 1, 12)])
        calls = [begin(1, 11, 2), *[number(1, k) for k in range(11)], *[number(2, 0) for k in range(20)],
                 *[number(2, k) for k in range(11)], sync(1, 2)]
        self.assertEqual(passed_after(1, *calls), [(1, 1 + k, 4, 2, 21 + k) for k in range(11)])

    def test_passed_by_an_undo_and_a_redo(self):
        calls = [begin(1, 1, 2), number(1, A), undo(1), number(2, A)]
        self.assertEqual(passed_after(2, *calls, sync(2, 1)), [(2, 1, 4, 1, 2)])
        self.assertEqual(passed_after(2, *calls, redo(1), sync(2, 1)), [(2, 1, 4, 1, 3)])
        self.assertEqual(passed_after(2, *calls, bring(2, 1, 1)), [(1, 1, 4, 2, 1)])

    def test_an_undo_is_passed(self):
        calls = [begin(1, 1, 2), number(1, A), undo(1), number(2, A), number(2, A), number(2, A), sync(1, 2)]
        self.assertEqual(passed_after(1, *calls), [(1, 1, 4, 2, 3), (1, 2, 4, 2, 3)])

    def test_what_waits_is_not_told(self):
        calls = [begin(1, 1, 2), number(1, A), number(2, A), number(2, A), bring(1, 2, 2)]
        self.assertEqual(passed_after(1, *calls), [])
        self.assertEqual(passed_after(1, *calls, bring(1, 2, 1)), [(1, 1, 4, 2, 2)])

    def test_told_of_cells_that_are_not_there(self):
        calls = [begin(2, 1, 2), number(1, A), number(2, A), sync(1, 2), remove(1, ROWS, 0, 1)]
        self.assertEqual(sheet_after(1, *calls), [[(0,)]])
        self.assertEqual(passed_after(1, *calls), [(1, 1, 4, 2, 1)])

    def test_hands_one_and_eight(self):
        calls = [begin(1, 1, 8), *[number(hand, A) for hand in range(1, 9)], *[sync(1, g) for g in range(2, 9)]]
        self.assertEqual(passed_after(1, *calls), [(hand, 1, 4, 8, 1) for hand in range(1, 8)])


class Refused(unittest.TestCase):
    def test_no_such_hand(self):
        for wrong in (0, 3, -1, LOW, HIGH):
            self.assertEqual(last(begin(1, 1, 2), passed(wrong)), [-1])

    def test_it_changes_nothing(self):
        calls = [begin(2, 2, 2), number(1, A), number(2, A), move(1, ROWS, 0, 1, 2), move(2, ROWS, 0, 1, 2), sync(1, 2)]
        looks = [passed(1), passed(2), passed(3), passed(0)]
        self.assertEqual(state(book_after(*calls, *looks)), state(book_after(*calls)))
        asked = ask_all(*calls, *looks, *looks)
        self.assertEqual(asked[6:10], asked[10:])
