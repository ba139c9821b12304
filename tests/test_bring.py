"""Promise 8, bring."""

import unittest

from tests.support import (
    COLS, HIGH, LOW, ROWS, acts, ask, begin, book_after, bring, first, last, line_after, move, passed_after, put, redo,
    remove, set_cell, sheet_after, state, sync, there_after, undo)


def number(hand, z, column=0):
    return set_cell(hand, 0, column, 1, z)


def order_after(hand, *calls):
    """Hand and number of the acts in the copy, in the order in which they came."""
    return [(act.hand, act.number) for act in book_after(*calls).copy_of(hand).came]


class InOrder(unittest.TestCase):
    calls = [begin(1, 1, 2), number(1, 5), number(1, 6)]

    def test_each_comes_at_once(self):
        self.assertEqual(ask(*self.calls, bring(2, 1, 1), bring(2, 1, 2)), [0, 0, 0, 1, 1])
        self.assertEqual(sheet_after(2, *self.calls, bring(2, 1, 1)), [[(1, 5)]])
        self.assertEqual(sheet_after(2, *self.calls, bring(2, 1, 1), bring(2, 1, 2)), [[(1, 6)]])
        self.assertEqual(last(*self.calls, bring(2, 1, 1), acts(2)), [1, 0, 1, 0])

    def test_twice(self):
        self.assertEqual(ask(*self.calls, bring(2, 1, 1), bring(2, 1, 1), bring(2, 1, 2), bring(2, 1, 1))[3:],
                         [1, 0, 1, 0])

    def test_each_call_that_makes_an_act(self):
        calls = [begin(3, 3, 2), put(1, ROWS, 1, 2), remove(1, COLS, 0, 1), move(1, ROWS, 0, 1, 5),
                 set_cell(1, 0, 1, 1, 8), undo(1), redo(1)]
        brought = [bring(2, 1, k) for k in range(1, 7)]
        self.assertEqual(ask(*calls, *brought)[7:], [1] * 6)
        for many in range(1, 7):
            self.assertEqual(sheet_after(2, *calls, *brought[:many]), sheet_after(1, *calls[:many + 1]))
        self.assertEqual(line_after(2, ROWS, *calls, *brought), [(1, 64), (1, 65), (0, 1), (0, 2), (0, 0)])
        self.assertEqual(there_after(2, COLS, *calls, *brought), first(1, 2))

    def test_the_others_copy_stays(self):
        calls = [*self.calls, bring(2, 1, 1)]
        self.assertEqual(sheet_after(1, *calls), [[(1, 6)]])
        self.assertEqual(last(*calls, acts(1)), [2, 0, 2, 0])


class OutOfOrder(unittest.TestCase):
    calls = [begin(1, 1, 2), number(1, 5), number(1, 6), number(1, 7)]

    def test_it_waits(self):
        calls = [*self.calls, bring(2, 1, 2)]
        self.assertEqual(ask(*calls)[-1], 0)
        self.assertEqual(last(*calls, acts(2)), [0, 1, 0, 0])
        self.assertEqual(sheet_after(2, *calls), [[(0,)]])

    def test_waits_already(self):
        calls = [*self.calls, bring(2, 1, 2), bring(2, 1, 2)]
        self.assertEqual(ask(*calls)[-2:], [0, 0])
        self.assertEqual(last(*calls, acts(2)), [0, 1, 0, 0])

    def test_comes_with_the_one_it_waits_for(self):
        calls = [*self.calls, bring(2, 1, 2), bring(2, 1, 1)]
        self.assertEqual(ask(*calls)[-2:], [0, 2])
        self.assertEqual(last(*calls, acts(2)), [2, 0, 2, 0])
        self.assertEqual(sheet_after(2, *calls), [[(1, 6)]])

    def test_some_wait_on(self):
        calls = [*self.calls, bring(2, 1, 3), bring(2, 1, 1)]
        self.assertEqual(ask(*calls, bring(2, 1, 3), bring(2, 1, 2), bring(2, 1, 3))[-5:], [0, 1, 0, 2, 0])
        self.assertEqual(last(*calls, acts(2)), [1, 1, 1, 0])

    def test_many_at_once(self):
        made = [number(1, k) for k in range(60)]
        brought = [bring(2, 1, k) for k in range(60, 0, -1)]
        calls = [begin(1, 1, 2), *made, *brought]
        self.assertEqual(ask(*calls)[61:], [0] * 59 + [60])
        self.assertEqual(sheet_after(2, *calls), [[(1, 59)]])
        self.assertEqual(last(*calls[:-1], acts(2)), [0, 59, 0, 0])

    def test_undo_comes_behind_what_it_undoes(self):
        calls = [begin(1, 1, 2), put(1, ROWS, 0, 2), undo(1), redo(1), bring(2, 1, 3), bring(2, 1, 2)]
        self.assertEqual(ask(*calls, bring(2, 1, 1))[4:], [0, 0, 3])
        self.assertEqual(line_after(2, ROWS, *calls), first(0))
        self.assertEqual(line_after(2, ROWS, *calls, bring(2, 1, 1)), [(1, 64), (1, 65), (0, 0)])

    def test_what_waits_has_no_time(self):
        # Hand 2's act is made on an empty copy, so its time is 1, and the second of hand 1 comes later.
        calls = [begin(1, 1, 2), number(1, 5), number(1, 6), bring(2, 1, 2), number(2, 9), bring(2, 1, 1)]
        self.assertEqual(ask(*calls)[-1], 2)
        self.assertEqual(sheet_after(2, *calls), [[(1, 6)]])
        self.assertEqual(passed_after(2, *calls), [(2, 1, 4, 1, 2)])

    def test_what_came_has_a_time(self):
        calls = [begin(1, 1, 2), number(1, 5), number(1, 6), bring(2, 1, 1), bring(2, 1, 2), number(2, 9)]
        self.assertEqual(sheet_after(1, *calls, bring(1, 2, 1)), [[(1, 9)]])
        self.assertEqual([act.time for act in book_after(*calls).acts_of(2)], [3])

    def test_one_more_than_the_greatest_time(self):
        # Hand 3 has had three acts, none later than time 2, so its own is of time 3, as hand 4's third.
        calls = [begin(1, 2, 4), number(1, 5), number(1, 6), number(2, 7), bring(3, 1, 1), bring(3, 1, 2),
                 bring(3, 2, 1), number(3, 8), number(4, 1, 1), number(4, 2, 1), number(4, 9), bring(4, 1, 1),
                 bring(4, 1, 2), bring(4, 2, 1), bring(4, 3, 1)]
        self.assertEqual([act.time for act in book_after(*calls).acts_of(3)], [3])
        self.assertEqual(sheet_after(4, *calls), [[(1, 9), (1, 2)]])


class OfSeveralHands(unittest.TestCase):
    chain = [begin(1, 3, 4), number(1, 1, 0), sync(2, 1), number(2, 2, 1), sync(3, 2), number(3, 3, 2)]

    def test_each_waits_for_anothers(self):
        calls = [*self.chain, bring(4, 3, 1), bring(4, 2, 1)]
        self.assertEqual(ask(*calls, bring(4, 1, 1))[-3:], [0, 0, 3])
        self.assertEqual(last(*calls, acts(4)), [0, 2, 0, 0, 0, 0])
        self.assertEqual(last(*calls, bring(4, 1, 1), acts(4)), [3, 0, 1, 1, 1, 0])
        self.assertEqual(sheet_after(4, *calls, bring(4, 1, 1)), [[(1, 1), (1, 2), (1, 3)]])

    def test_waits_for_all_that_it_knows(self):
        calls = [begin(1, 3, 4), number(1, 1, 0), number(2, 2, 1), sync(3, 1), sync(3, 2), number(3, 3, 2)]
        self.assertEqual(ask(*calls, bring(4, 3, 1), bring(4, 1, 1), bring(4, 2, 1))[-3:], [0, 1, 2])
        self.assertEqual(ask(*calls, bring(4, 3, 1), bring(4, 2, 1), bring(4, 1, 1))[-3:], [0, 1, 2])

    def test_what_knows_nothing_of_others_does_not_wait(self):
        calls = [begin(1, 2, 3), number(1, 1), number(2, 2, 1), bring(3, 2, 1)]
        self.assertEqual(ask(*calls)[-1], 1)
        self.assertEqual(sheet_after(3, *calls), [[(0,), (1, 2)]])

    def test_first_by_hand_then_by_number(self):
        calls = [begin(1, 3, 4), number(1, 1), sync(2, 1), sync(3, 1), number(3, 3), number(2, 4), number(2, 5),
                 bring(4, 3, 1), bring(4, 2, 2), bring(4, 2, 1), bring(4, 1, 1)]
        self.assertEqual(ask(*calls)[-4:], [0, 0, 0, 4])
        self.assertEqual(order_after(4, *calls), [(1, 1), (2, 1), (2, 2), (3, 1)])

    def test_first_again_behind_each(self):
        # Of hand 2 nothing can come before the first of hand 3, but then before its second.
        calls = [begin(1, 3, 4), number(1, 1), sync(3, 1), number(3, 3), sync(2, 3), number(2, 4), number(3, 5),
                 bring(4, 2, 1), bring(4, 3, 2), bring(4, 3, 1), bring(4, 1, 1)]
        self.assertEqual(ask(*calls)[-4:], [0, 0, 0, 4])
        self.assertEqual(order_after(4, *calls), [(1, 1), (3, 1), (2, 1), (3, 2)])

    def test_order_does_not_matter(self):
        acts_of_three = [begin(2, 2, 4), set_cell(1, 0, 0, 1, 1), put(2, ROWS, 1, 1), remove(3, COLS, 0, 1),
                         move(1, ROWS, 0, 1, 2), set_cell(2, 0, 0, 1, 2), put(3, ROWS, 1, 1)]
        keys = [(1, 1), (2, 1), (3, 1), (1, 2), (2, 2), (3, 2)]
        sheets = []
        for turn in range(6):
            brought = [bring(4, g, k) for g, k in keys[turn:] + keys[:turn]]
            sheets.append(sheet_after(4, *acts_of_three, *brought))
            sheets.append(sheet_after(4, *acts_of_three, *reversed(brought)))
        self.assertEqual(sheets, [sheets[0]] * 12)
        # Both put behind row (0, 0), which hand 1 moved away: the less hand's comes first.
        self.assertEqual(there_after(4, ROWS, *acts_of_three, *brought), [(2, 64), (3, 128), (0, 1), (0, 0)])
        self.assertEqual(sheets[0], [[(0,)]] * 4)

    def test_hands_one_and_eight(self):
        calls = [begin(1, 1, 8), number(1, 5), number(8, 6), bring(8, 1, 1), bring(1, 8, 1)]
        self.assertEqual(ask(*calls), [0, 0, 0, 1, 1])
        self.assertEqual(sheet_after(1, *calls), [[(1, 6)]])
        self.assertEqual(sheet_after(8, *calls), [[(1, 6)]])


class Edges(unittest.TestCase):
    calls = [begin(1, 1, 2), number(1, 5), number(1, 6), number(1, 7)]

    def test_first_and_last(self):
        self.assertEqual(ask(*self.calls, bring(2, 1, 0), bring(2, 1, 1), bring(2, 1, 3), bring(2, 1, 4))[4:],
                         [-2, 1, 0, -2])

    def test_not_made(self):
        for wrong in (0, 4, 5, -1, -3, LOW, HIGH):
            self.assertEqual(ask(*self.calls, bring(2, 1, wrong))[-1], -2)
        self.assertEqual(ask(*self.calls, sync(2, 1), bring(1, 2, 1), bring(2, 2, 1))[-2:], [-2, -2])

    def test_ones_own(self):
        self.assertEqual(ask(*self.calls, bring(1, 1, 1), bring(1, 1, 3), bring(1, 1, 4), bring(1, 1, 0))[4:],
                         [0, 0, -2, -2])
        self.assertEqual(last(*self.calls, bring(1, 1, 1), bring(1, 1, 3), acts(1)), [3, 0, 3, 0])

    def test_no_such_hand(self):
        for wrong in (0, 3, -1, LOW, HIGH):
            self.assertEqual(ask(*self.calls, bring(wrong, 1, 1), bring(2, wrong, 1), bring(wrong, wrong, 1))[4:],
                             [-1, -1, -1])

    def test_one_refusal_before_the_other(self):
        self.assertEqual(ask(*self.calls, bring(3, 1, 9), bring(2, 3, 0), bring(LOW, HIGH, LOW), bring(0, 1, HIGH))[4:],
                         [-1, -1, -1, -1])

    def test_refused_changes_nothing(self):
        calls = [*self.calls, bring(2, 1, 1), bring(2, 1, 3)]
        refused = [bring(2, 1, 0), bring(2, 1, 4), bring(2, 1, -1), bring(2, 3, 1), bring(3, 1, 1), bring(1, 2, 1)]
        self.assertEqual(ask(*calls, *refused)[-6:], [-2, -2, -2, -1, -1, -2])
        self.assertEqual(state(book_after(*calls, *refused)), state(book_after(*calls)))

    def test_nothing_waits_behind_begin(self):
        self.assertEqual(last(*self.calls, bring(2, 1, 3), begin(1, 1, 2), acts(2)), [0, 0, 0, 0])
        self.assertEqual(ask(*self.calls, bring(2, 1, 2), begin(1, 1, 2), bring(2, 1, 1), number(1, 5),
                             bring(2, 1, 1))[-3:], [-2, 0, 1])
