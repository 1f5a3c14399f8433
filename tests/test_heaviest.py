"""The heaviest rows that may be asked: they are right, and a whole list of them is answered soon."""

import time
import unittest

from checker import choices_of_words
from examples import Example, tower
from helper import all_readings, answers, joined, many, reading
from model import Model, over, readings_of_words, under, weight

S, T = 0, 1
RIGHT_STEP = over(S, S)
LEFT_STEP = under(S, S)
JOINING = over(LEFT_STEP, S)
# Far more than is needed, so that a busy machine fails nothing.
SECONDS = 60

# The words' kinds, and what the row is read as: weights that come to 16.
HEAVY = (
    ([[RIGHT_STEP]] * 3 + [[S]] + [[LEFT_STEP]] * 4, S),
    ([[S]] + [[JOINING], [S]] * 3 + [[LEFT_STEP]], S),
    ([[over(S, tower(3))]], over(S, tower(3))),
    ([[over(S, tower(5))]], over(S, tower(1))),
    ([[over(S, tower(1))]], over(S, tower(5))),
    ([[tower(5)], [S], [S]], tower(1)),
)
# The same with 12 words.
LONG = (
    ([[RIGHT_STEP]] * 3 + [[S]] * 9, S),
    ([[S]] * 11 + [[under(S, under(S, under(S, S)))]], S),
    ([[S]] * 8 + [[JOINING]] + [[S]] * 2 + [[LEFT_STEP]], S),
    ([[S]] * 12, over(S, tower(1))),
)
# The same with numbers of kinds that come to 16, multiplied; the last with 12 words, too.
MANY_CHOICES = (
    ([[RIGHT_STEP, LEFT_STEP]] * 3 + [[S, RIGHT_STEP]] + [[LEFT_STEP]] * 3, LEFT_STEP),
    ([[RIGHT_STEP], [S], [LEFT_STEP, under(S, LEFT_STEP), under(over(S, LEFT_STEP), S), under(tower(1), S)],
      [LEFT_STEP, under(S, RIGHT_STEP), under(tower(1), S), under(over(S, LEFT_STEP), S)], [LEFT_STEP]],
     under(RIGHT_STEP, S)),
    ([[S], [under(tower(1), RIGHT_STEP), under(over(S, LEFT_STEP), RIGHT_STEP), under(S, over(S, tower(1))), JOINING],
      [S], [under(LEFT_STEP, LEFT_STEP), under(over(S, LEFT_STEP), S), under(tower(1), S), LEFT_STEP]],
     under(RIGHT_STEP, over(S, LEFT_STEP))),
    ([[over(S, RIGHT_STEP), RIGHT_STEP, over(RIGHT_STEP, S), over(S, LEFT_STEP)], [RIGHT_STEP], [S],
      [LEFT_STEP, under(S, LEFT_STEP), JOINING, under(S, RIGHT_STEP)], [S]],
     over(under(over(S, over(S, LEFT_STEP)), S), S)),
    ([[S, T]] + [[S, RIGHT_STEP]] * 2 + [[S]] * 8 + [[S, LEFT_STEP]], S),
)


def weights_of(words, wanted):
    return sum(max(weight(tree) for tree in trees) for trees in words) + weight(wanted)


def all_examples():
    return [Example(words, wanted, 2) for words, wanted in HEAVY + LONG + MANY_CHOICES]


class Heaviest(unittest.TestCase):
    def test_they_are_the_heaviest_that_may_be_asked(self):
        for example in all_examples():
            model = Model()
            for call in example.calls:
                model.answer(call)
            self.assertTrue(model.is_asked(example.number, example.row), example.words)
            self.assertEqual(weights_of(example.words, example.wanted), 16, example.words)
        for words, wanted in LONG + MANY_CHOICES[-1:]:
            self.assertEqual(len(words), 12)
        for words, wanted in MANY_CHOICES:
            product = 1
            for trees in words:
                product *= len(trees)
            self.assertEqual(product, 16, words)

    def test_they_are_right(self):
        for example in all_examples():
            found = all_readings(example.calls, example.number, example.row)
            expected = [list(told) for told in readings_of_words(example.words, example.wanted)]
            self.assertEqual(found, expected, example.words)
            chosen = [choices_of_words(told, example.words, example.wanted) for told in found]
            self.assertEqual(chosen, sorted(chosen))

    def test_whole_lists_of_them_are_answered_soon(self):
        for example in all_examples():
            room = 400 - len(example.calls)
            for call in (many(example.number, example.row), reading(example.number, 99999, example.row)):
                begin = time.monotonic()
                answers(joined(example.calls + [call] * room))
                self.assertLess(time.monotonic() - begin, SECONDS, example.words)


if __name__ == "__main__":
    unittest.main()
