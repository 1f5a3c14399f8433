"""Many lists of calls, compared with a second program that keeps kinds as trees."""

import random
import unittest

from helper import ATOM, LARGEST, START, WORD, ask, kind


class TreeModel:
    def __init__(self):
        self.start()

    def start(self):
        self.trees = []
        self.word_total = 0
        return 0

    def weight(self, tree):
        return 1 if tree[0] == "atom" else self.weight(tree[1]) + self.weight(tree[2])

    def word(self):
        if self.word_total == 256:
            return -28
        self.word_total += 1
        return self.word_total - 1

    def kind(self, how, a, b):
        if how == 0 and (a, b) == (0, 0):
            tree = ("atom", len(self.trees))
        elif how in (1, 2) and max(a, b) < len(self.trees):
            tree = ("right" if how == 1 else "left", self.trees[a], self.trees[b])
        else:
            return -22
        if self.weight(tree) > 12:
            return -34
        if tree not in self.trees:
            if len(self.trees) == 256:
                return -28
            self.trees.append(tree)
        return self.trees.index(tree)

    def answer(self, call):
        return (self.start, self.kind, self.word)[call[0]](*call[1:])


def some_number(source, below):
    if source.random() < 0.03:
        return source.choice((255, 256, LARGEST))
    return source.randrange(below + 1)


def some_call(source, below, start_share):
    share = source.random()
    if share < start_share:
        return START
    if share < 0.2:
        return WORD
    if share < 0.5:
        return ATOM
    how = source.choice((0, 1, 1, 1, 2, 2, 2, 3, LARGEST))
    return kind(how, some_number(source, below), some_number(source, below))


class AgainstModel(unittest.TestCase):
    def compare(self, calls):
        model = TreeModel()
        self.assertEqual(ask(calls), [model.answer(call) for call in calls])

    def test_short_lists(self):
        source = random.Random(1)
        for i in range(300):
            self.compare([some_call(source, 6, 0.04) for j in range(source.randrange(1, 60))])

    def test_long_lists(self):
        source = random.Random(2)
        for below in (4, 12, 40, 255):
            for i in range(8):
                self.compare([some_call(source, below, 0.0) for j in range(400)])

    def test_lists_that_fill_the_object(self):
        source = random.Random(3)
        for i in range(12):
            made = [ATOM] * source.randrange(200, 256)
            self.compare(made + [some_call(source, 255, 0.0) for j in range(400 - len(made))])


if __name__ == "__main__":
    unittest.main()
