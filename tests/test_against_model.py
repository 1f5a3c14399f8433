"""Many lists of calls, compared with a second program that keeps kinds as trees and makes every reading."""

import random
import unittest

from examples import some_example
from helper import ATOM, LARGEST, START, WORD, all_readings, ask_lists, give, kind, many, reading
from model import Model, readings_of_words


def some_number(source, below):
    if source.random() < 0.03:
        return source.choice((255, 256, LARGEST))
    return source.randrange(below + 1)


def some_call(source, below, start_share):
    share = source.random()
    if share < start_share:
        return START
    if share < 0.2:
        return WORD
    if share < 0.4:
        return ATOM
    if share < 0.5:
        return give(some_number(source, below), some_number(source, below))
    how = source.choice((0, 1, 1, 1, 2, 2, 2, 3, LARGEST))
    return kind(how, some_number(source, below), some_number(source, below))


def some_row_call(source, model):
    """A call of many or reading that may be asked where the model stands now."""
    while True:
        count = source.choice((0, 1, 1, 2, 2, 2, 3, 3, 3, 4, 4, 5, 6, 12, 13, 20))
        row = [source.randrange(max(1, len(model.words))) for i in range(count)]
        if row and source.random() < 0.05:
            row[source.randrange(count)] = source.choice((len(model.words), 255))
        wanted = some_number(source, len(model.trees))
        if model.is_asked(wanted, row):
            if source.random() < 0.5:
                return many(wanted, row)
            return reading(wanted, source.choice((0, 0, 0, 1, 2, 99999, 100000, LARGEST)), row)


class AgainstModel(unittest.TestCase):
    def compare(self, calls):
        model = Model()
        self.assertEqual(ask_lists(calls), [model.answer(call) for call in calls])

    def test_short_lists(self):
        source = random.Random(1)
        for i in range(300):
            self.compare([some_call(source, 6, 0.04) for j in range(source.randrange(1, 60))])

    def test_long_lists(self):
        source = random.Random(2)
        for below in (4, 12, 40, 255):
            for i in range(8):
                self.compare([some_call(source, below, 0.0) for j in range(400)])

    def test_lists_that_fill_the_object(self):
        source = random.Random(3)
        for i in range(12):
            made = [ATOM] * source.randrange(200, 256)
            self.compare(made + [some_call(source, 255, 0.0) for j in range(400 - len(made))])

    def test_lists_with_rows(self):
        source = random.Random(4)
        for i in range(150):
            model = Model()
            calls = [ATOM, WORD, give(0, 0), WORD]
            expected = [model.answer(call) for call in calls]
            for j in range(source.randrange(1, 397)):
                with_row = source.random() < 0.5
                calls.append(some_row_call(source, model) if with_row else some_call(source, 5, 0.01))
                expected.append(model.answer(calls[-1]))
            self.assertEqual(ask_lists(calls), expected)

    def test_all_readings_of_some_rows(self):
        source = random.Random(5)
        for i in range(2500):
            example = some_example(source)
            expected = [list(told) for told in readings_of_words(example.words, example.wanted)]
            self.assertEqual(all_readings(example.calls, example.number, example.row), expected)


if __name__ == "__main__":
    unittest.main()
