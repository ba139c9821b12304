"""What is promised over the whole program: the frame of the answers, and that hands come to see the same sheet."""

import random
import unittest

from sheethands.sheet import answers
from tests.chance import a_begin_size, a_call
from tests.model import Model
from tests.support import (
    COLS, ROWS, acts, ask_all, begin, bring, joined, move, passed, put, redo, remove, set_cell, sheet, sync, undo)

EVERY_CALL = [
    begin(2, 2, 3), put(1, ROWS, 1, 1), remove(2, COLS, 0, 1), move(1, ROWS, 0, 2, 3), set_cell(2, 0, 0, 2, 0, 0, 1, 0),
    set_cell(1, 0, 0, 1, 5), undo(1), redo(1), bring(3, 1, 2), bring(3, 1, 1), sync(3, 2),
    set_cell(3, 0, 0, 3, 7, 1, 0, 8), sync(1, 3), sheet(1), passed(1), acts(1), sheet(2), passed(2), acts(2), sheet(3),
    passed(3), acts(3), undo(2), bring(1, 2, 9), sync(9, 1), set_cell(1, 0, 0, 9), acts(0)]


def a_line(seed, most=60):
    """Calls by chance, of two hands at least, and what each hand has made by them."""
    chance = random.Random(seed)
    model = Model()
    calls = []
    rows, columns, hands = a_begin_size(chance)
    calls.append(begin(min(max(rows, 1), 5), min(max(columns, 1), 4), min(max(hands, 2), 4)))
    model.answer(calls[0])
    for at in range(chance.randint(10, most)):
        calls.append(a_call(chance, model))
        model.answer(calls[-1])
    return chance, calls, [(act["hand"], act["number"]) for g in model.copies for act in model.own(g)], model.hands


class Frame(unittest.TestCase):
    def test_each_answer_with_its_count(self):
        self.assertEqual(
            answers([1, 1, 2, 2, 5, 1, 0, 0, 2, 1, 9, 6, 1, 7, 1, 8, 2, 1, 1, 9, 2, 1, 10, 2, 11, 2, 12, 2, 10, 3]),
            [1, 0, 1, 0, 1, 1, 1, 1, 1, 1, 1, 2, 6, 0, 1, 2, 1, 9, 0, 1, 0, 4, 3, 0, 3, 0, 1, -1])

    def test_count_of_passed(self):
        self.assertEqual(
            answers([1, 1, 1, 2, 5, 1, 0, 0, 2, 1, 9, 5, 2, 0, 0, 1, 0, 9, 1, 2, 11, 1, 12, 1]),
            [1, 0, 1, 0, 1, 0, 1, 1, 6, 1, 1, 1, 4, 2, 1, 4, 2, 0, 1, 1])

    def test_what_is_handed_in_stays(self):
        calls = joined(EVERY_CALL)
        answers(calls)
        self.assertEqual(calls, joined(EVERY_CALL))

    def test_same_list_twice(self):
        calls = joined(EVERY_CALL)
        asked = answers(calls)
        self.assertEqual(answers(calls), asked)
        self.assertEqual(answers([12, 1]), [3, 0, 0, 0])
        self.assertEqual(answers(calls), asked)

    def test_answers_are_whole_numbers(self):
        for number in answers(joined(EVERY_CALL)):
            self.assertIs(type(number), int)

    def test_looks_change_nothing(self):
        looks = [sheet(1), passed(1), acts(1), sheet(2), passed(2), acts(2), sheet(3), passed(3), acts(3), sheet(4)]
        without = ask_all(*EVERY_CALL)
        calls = [EVERY_CALL[0]]
        for call in EVERY_CALL[1:]:
            calls += [*looks, call]
        self.assertEqual(ask_all(*calls)[::11], without)


class SameActsSameSheet(unittest.TestCase):
    def looks_of(self, hands):
        return [[sheet(hand), passed(hand), acts(hand)] for hand in hands]

    def all_same(self, calls, hands, many):
        looks = joined(self.looks_of(hands))
        told = ask_all(*calls, *looks)[len(calls):]
        self.assertEqual(told, told[:3] * len(hands))
        self.assertEqual(told[2][:2], [many, 0])

    def test_all_brought_in_any_order(self):
        for seed in range(60):
            chance, calls, made, hands = a_line(seed)
            for hand in range(1, hands + 1):
                chance.shuffle(made)
                calls += [bring(hand, g, k) for g, k in made]
            self.all_same(calls, range(1, hands + 1), len(made))

    def test_all_synced(self):
        for seed in range(100, 160):
            chance, calls, made, hands = a_line(seed)
            order = list(range(1, hands + 1))
            chance.shuffle(order)
            # Round about twice, each from the one ahead of it: everybody's acts reach everybody.
            for turn in range(2):
                calls += [sync(order[k], order[k - 1]) for k in range(hands)]
            self.all_same(calls, order, len(made))

    def test_what_comes_again_changes_nothing(self):
        for seed in range(200, 220):
            chance, calls, made, hands = a_line(seed)
            calls += [sync(1, g) for g in range(1, hands + 1)]
            again = [bring(1, g, k) for g, k in made]
            looks = [sheet(1), passed(1), acts(1)]
            told = ask_all(*calls, *looks, *again, *looks)
            self.assertEqual(told[-3:], told[len(calls):len(calls) + 3])
            self.assertEqual(told[len(calls) + 3:-3], [[0]] * len(made))


class Sizes(unittest.TestCase):
    def test_a_great_sheet_of_three_hundred_calls(self):
        calls = [begin(64, 64, 8)]
        for k in range(36):
            calls += [put(1 + k % 8, k % 2, 1, 16), set_cell(1 + k % 8, k, k, 2, 0, 0, 60, 60)]
        calls += [sync(1, 1 + k % 8) for k in range(200)] + [undo(1)] * 2 + [redo(1)] * 2
        calls += [sheet(1), passed(1), acts(1)]
        told = ask_all(*calls)
        self.assertEqual(told[-3][:3], [0, 64 + 18 * 16, 64 + 18 * 16])
        self.assertEqual(told[-1], [76, 0, 14] + [10] * 3 + [8] * 4)

    def test_many_that_wait(self):
        made = [put(1, ROWS, 1, 16) for k in range(149)]
        calls = [begin(2, 1, 2), *made, *[bring(2, 1, k) for k in range(149, 0, -1)], acts(2)]
        self.assertEqual(len(calls), 300)
        self.assertEqual(ask_all(*calls)[-2:], [[149], [149, 0, 149, 0]])
