"""Many lines of calls, by a fixed seed, answered by the program and by the model: the same, behind every call."""

import random
import unittest

from sheethands.act import cell_of
from sheethands.book import Book
from sheethands.sheet import answers, answers_on
from tests.chance import a_begin_size, a_call, closing
from tests.model import Model
from tests.support import begin, joined, placed


def flat(value):
    return tuple([flat(one) for one in value]) if isinstance(value, (list, tuple)) else value


class AgainstTheModel(unittest.TestCase):
    def compare(self, book, model):
        for hand, acts in model.copies.items():
            copy = book.copy_of(hand)
            for axis in (0, 1):
                self.assertEqual([(number, flat(place)) for number, place in model.line(acts, axis)],
                                 placed(copy, axis))
                self.assertEqual(model.there(acts, axis), copy.there(axis))
            for row in copy.line(0):
                for column in copy.line(1):
                    self.assertEqual(flat(model.value(acts, ("cell", row, column))), copy.has(cell_of(row, column)))
            self.assertEqual([self.of_model(act) for act in acts], [self.of_program(act) for act in copy.came])
            self.assertEqual(sorted([(act["hand"], act["number"]) for act in model.waiting[hand]]),
                             sorted(copy.waiting))

    def of_model(self, act):
        return (act["hand"], act["number"], act["time"], len(act["knows"]), flat([v for t, v in act["writes"]]))

    def of_program(self, act):
        # A place that is none is an empty one in the program, None in the model.
        values = [v or None if t[0] in (0, 2) else v for t, v in act.writes.items()]
        return (act.hand, act.number, act.time, sum(act.knows), tuple(values))

    def one_line(self, seed, most):
        chance = random.Random(seed)
        book = Book()
        model = Model()
        calls = []
        expected = []

        def both(call):
            calls.append(call)
            answer = model.answer(call)
            self.assertEqual(answers_on(book, call), [len(answer)] + answer, (seed, calls))
            expected.extend([len(answer)] + answer)

        for at in range(chance.randint(1, most)):
            begins = (at == 0 and chance.random() < 0.95) or chance.random() < 0.003
            both(begin(*a_begin_size(chance)) if begins else a_call(chance, model))
        self.compare(book, model)
        for call in closing(model.hands):
            both(call)
        self.compare(book, model)
        self.assertEqual(answers(joined(calls)), expected, seed)

    def test_short_lines(self):
        for seed in range(1000):
            self.one_line(seed, 25)

    def test_long_lines(self):
        for seed in range(1000, 1300):
            self.one_line(seed, 120)
