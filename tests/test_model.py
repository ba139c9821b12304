"""Many lines of calls, by a fixed seed, answered by the program and by the model: the same, behind every call."""

import random
import unittest

from sheethands.act import cell_of
from sheethands.book import Book
from sheethands.sheet import answers, answers_on
from tests.model import Model
from tests.support import HIGH, LOW, begin, joined, move, put, remove, set_cell, undo


def near(chance, low, high):
    """Mostly from low to high, now and then just or far beyond."""
    if chance.random() < 0.04:
        return chance.choice((low - 1, high + 1, LOW, HIGH))
    return chance.randint(low, max(low, high))


def a_content(chance, rows, columns):
    def row():
        return near(chance, 0, rows - 1)

    def column():
        return near(chance, 0, columns - 1)

    contents = ([0], [1, chance.choice((LOW, -3, 0, 8, HIGH))], [2, row(), column(), row(), column()],
                [3, chance.randint(-5, 5), row(), column(), HIGH], [chance.randint(-1, 5)] * chance.randint(1, 8))
    return chance.choice(contents)


def a_call(chance, model):
    hand = near(chance, 1, model.hands)
    axis = near(chance, 0, 1) if chance.random() < 0.3 else 0
    copy = model.copies.get(hand, [])
    sizes = [len(model.there(copy, 0)), len(model.there(copy, 1))]
    size = sizes[axis] if axis in (0, 1) else 1
    k = near(chance, 0, size)
    n = near(chance, 1, 3) if chance.random() < 0.9 else chance.choice((0, 16, 17, 64, 65))
    name = chance.choice(("put", "put", "remove", "move", "move", "set", "undo", "undo"))
    if name == "put":
        return put(hand, axis, k, n)
    if name == "remove":
        return remove(hand, axis, k, n)
    if name == "move":
        return move(hand, axis, k, n, near(chance, 0, size))
    if name == "set":
        row = near(chance, 0, sizes[0] - 1)
        column = near(chance, 0, sizes[1] - 1)
        return set_cell(hand, row, column, *a_content(chance, *sizes))
    return undo(hand)


def flat(value):
    return tuple([flat(one) for one in value]) if isinstance(value, (list, tuple)) else value


class AgainstTheModel(unittest.TestCase):
    def compare(self, book, model):
        for hand, acts in model.copies.items():
            copy = book.copy_of(hand)
            for axis in (0, 1):
                self.assertEqual([(number, flat(place)) for number, place in model.line(acts, axis)],
                                 list(copy.places[axis].items()))
                self.assertEqual(model.there(acts, axis), copy.there(axis))
            for row in copy.line(0):
                for column in copy.line(1):
                    self.assertEqual(flat(model.value(acts, ("cell", row, column))), copy.has(cell_of(row, column)))
            made = [(act["number"], act["time"], len(act["knows"]), flat([v for t, v in act["writes"]]))
                    for act in acts]
            told = [(act.number, act.time, sum(act.knows), tuple([v or None if t[0] in (0, 2) else v
                                                                 for t, v in act.writes.items()]))
                    for act in book.acts_of(hand)]
            self.assertEqual(made, told)

    def one_line(self, seed):
        chance = random.Random(seed)
        book = Book()
        model = Model()
        calls = []
        expected = []
        for at in range(chance.randint(1, 40)):
            if (at == 0 and chance.random() < 0.9) or chance.random() < 0.01:
                call = begin(near(chance, 1, 6), near(chance, 1, 4), near(chance, 1, 3))
            else:
                call = a_call(chance, model)
            calls.append(call)
            expected += [1, model.answer(call)]
            self.assertEqual(answers_on(book, call), expected[-2:], (seed, calls))
        self.compare(book, model)
        self.assertEqual(answers(joined(calls)), expected, seed)

    def test_many_lines(self):
        for seed in range(250):
            self.one_line(seed)
