"""The corners that the document names, with every byte worked out by hand."""

import unittest

from examples import Example
from helper import all_readings, ask_lists, many, reading
from model import over, under

S, T, X = 0, 1, 2

RIGHT_STEP = over(S, S)
LEFT_STEP = under(S, S)


def told(words, wanted):
    """All readings of a row of words, each a list of kinds as trees."""
    example = Example(words, wanted, 3)
    return all_readings(example.calls, example.number, example.row)


def told_of_one_word(trees, count, wanted):
    """All readings of a row that has one word so many times."""
    example = Example([trees], wanted, 3)
    return all_readings(example.calls, example.number, example.row * count)


class AsksForItsOwnKind(unittest.TestCase):
    def test_a_word_that_has_what_it_asks_for(self):
        word = [S, RIGHT_STEP]
        self.assertEqual(told_of_one_word(word, 1, S), [[2, 0, 0, 0]])
        self.assertEqual(told_of_one_word(word, 2, S), [[2, 0, 1, 1, 2, 1, 0, 0]])
        self.assertEqual(told_of_one_word(word, 4, S), [[2, 0, 1, 1, 2, 1, 1, 1, 2, 2, 1, 1, 2, 3, 0, 0]])

    def test_at_either_side(self):
        word = [S, RIGHT_STEP, LEFT_STEP]
        self.assertEqual(told_of_one_word(word, 2, S), [[2, 1, 2, 1, 2, 0, 0, 0], [2, 0, 1, 1, 2, 1, 0, 0]])

    def test_a_kind_that_asks_for_what_it_gives(self):
        self.assertEqual(told([[RIGHT_STEP]], S), [])
        self.assertEqual(told([[RIGHT_STEP]], RIGHT_STEP), [[1, 2, 0, 0, 1, 3, 0, 0]])
        self.assertEqual(told([[RIGHT_STEP], [RIGHT_STEP]], RIGHT_STEP),
                         [[1, 2, 0, 0, 1, 2, 1, 0, 1, 3, 0, 0]])
        self.assertEqual(told([[LEFT_STEP], [LEFT_STEP]], LEFT_STEP),
                         [[1, 2, 1, 0, 1, 2, 0, 0, 1, 3, 0, 0]])

    def test_a_word_that_asks_for_the_very_kind_it_has(self):
        outer = over(RIGHT_STEP, RIGHT_STEP)
        # A thing is supposed behind both words, and another one behind the second word, which the first takes alone.
        expected = [[1, 2, 0, 0, 2, 1, 2, 1, 0, 1, 3, 1, 0, 3, 0, 0]]
        self.assertEqual(told([[outer], [RIGHT_STEP]], RIGHT_STEP), expected)
        first = [1, 2, 0, 0, 2, 1, 2, 1, 1, 1, 3, 1, 0, 3, 0, 0]
        second = [1, 2, 0, 1, 1, 2, 1, 1, 1, 3, 0, 0]
        self.assertEqual(told_of_one_word([outer, RIGHT_STEP], 2, RIGHT_STEP), [first, second])


class WithoutKinds(unittest.TestCase):
    def test_alone_and_among_others(self):
        for words in ([[]], [[], [S]], [[S], []], [[RIGHT_STEP], [], [S]], [[]] * 12):
            for wanted in (S, RIGHT_STEP, over(S, LEFT_STEP)):
                with self.subTest(words=words, wanted=wanted):
                    self.assertEqual(told(words, wanted), [])

    def test_it_is_no_refusal(self):
        example = Example([[]], S, 1)
        self.assertEqual(ask_lists(example.calls + [many(0, [0]), reading(0, 0, [0])])[-2:], [[0], [-2]])


class AsksForWhatAsksForIt(unittest.TestCase):
    def test_an_atom(self):
        expected = [[1, 3, 0, 1, 2, 0, 0, 0]]
        self.assertEqual(told([[T]], over(S, under(T, S))), expected)
        self.assertEqual(told([[T]], under(over(S, T), S)), expected)
        self.assertEqual(told([[S]], over(S, LEFT_STEP)), expected)
        self.assertEqual(told([[S]], under(RIGHT_STEP, S)), expected)

    def test_not_the_other_way_round(self):
        self.assertEqual(told([[over(S, under(T, S))]], T), [])
        self.assertEqual(told([[over(S, LEFT_STEP)]], S), [])

    def test_not_at_the_wrong_side(self):
        self.assertEqual(told([[T]], over(S, over(S, T))), [])
        self.assertEqual(told([[T]], under(under(T, S), S)), [])

    def test_a_kind_that_asks(self):
        asking = over(T, X)
        self.assertEqual(told([[asking]], over(S, under(asking, S))), [[1, 3, 0, 1, 1, 2, 0, 0, 1, 3, 1, 0]])

    def test_twice(self):
        once = over(S, under(T, S))
        twice = under(over(X, once), X)
        self.assertEqual(told([[T]], twice), [[1, 3, 0, 1, 1, 3, 1, 1, 2, 0, 0, 0]])

    def test_down_again(self):
        # What asks for what asks for what asks for it asks for it.
        once = over(S, under(T, S))
        self.assertEqual(told([[under(once, S)]], under(T, S)), [[1, 2, 0, 0, 1, 1, 3, 1, 1, 3, 0, 0]])


class OneWord(unittest.TestCase):
    def test_an_atom(self):
        self.assertEqual(told([[S]], S), [[2, 0, 0, 0]])
        self.assertEqual(told([[S]], T), [])

    def test_several_kinds(self):
        self.assertEqual(told([[RIGHT_STEP, T, LEFT_STEP, S]], S), [[2, 0, 3, 0]])
        self.assertEqual(told([[RIGHT_STEP, T, LEFT_STEP, S]], LEFT_STEP), [[1, 2, 0, 2, 1, 3, 0, 0]])

    def test_as_itself_in_two_ways(self):
        # What is supposed behind the word, (s / s) \ s, may be asked for by it or be the head itself.
        tree = over(S, under(RIGHT_STEP, S))
        first = [1, 2, 0, 0, 1, 1, 3, 0, 1, 1, 3, 1, 1, 3, 2, 0]
        second = [1, 3, 0, 1, 1, 2, 0, 0, 1, 1, 3, 2, 1, 3, 1, 0]
        self.assertEqual(told([[tree]], tree), [first, second])


class AllWordsAlike(unittest.TestCase):
    def test_atoms(self):
        for count in range(2, 13):
            self.assertEqual(told_of_one_word([S], count, S), [])

    def test_steps(self):
        for count in range(1, 7):
            expected = [1]
            for at in range(count):
                expected += [2, at, 0, 1]
            self.assertEqual(told_of_one_word([RIGHT_STEP], count, RIGHT_STEP), [expected + [3, 0, 0]])

    def test_two_kinds_four_times(self):
        # As t / t all are read by their second kind; as t the last one by its first kind.
        word = [T, over(T, T)]
        expected = [[1, 2, 0, 1, 1, 2, 1, 1, 1, 2, 2, 1, 1, 2, 3, 1, 1, 3, 0, 0]]
        self.assertEqual(told_of_one_word(word, 4, over(T, T)), expected)
        self.assertEqual(told_of_one_word(word, 4, T), [[2, 0, 1, 1, 2, 1, 1, 1, 2, 2, 1, 1, 2, 3, 0, 0]])

    def test_each_place_has_a_choice_of_its_own(self):
        self.assertEqual(told_of_one_word([T, over(S, T)], 2, S), [[2, 0, 1, 1, 2, 1, 0, 0]])
        self.assertEqual(told_of_one_word([S, over(under(S, S), S)], 3, S), [[2, 1, 1, 2, 2, 2, 0, 0, 2, 0, 0, 0]])


class HeadInTheMiddle(unittest.TestCase):
    def test_right_first_and_left_first(self):
        self.assertEqual(told([[T], [over(under(T, S), X)], [X]], S), [[2, 1, 0, 2, 2, 2, 0, 0, 2, 0, 0, 0]])
        self.assertEqual(told([[T], [under(T, over(S, X))], [X]], S), [[2, 1, 0, 2, 2, 0, 0, 0, 2, 2, 0, 0]])

    def test_by_turns(self):
        tree = over(under(T, over(under(X, S), T)), X)
        # It asks for x at its right, t at its left, t at its right, x at its left.
        self.assertEqual(told([[X], [T], [tree], [X], [T]], S),
                         [[2, 2, 0, 4, 2, 3, 0, 0, 2, 1, 0, 0, 2, 4, 0, 0, 2, 0, 0, 0]])

    def test_the_sides_mixed_up(self):
        self.assertEqual(told([[X], [over(under(T, S), X)], [T]], S), [])
        self.assertEqual(told([[T], [X], [over(under(T, S), X)]], S), [])

    def test_two_heads_that_ask_to_both_sides(self):
        joining = over(LEFT_STEP, S)
        first = [2, 1, 0, 2, 2, 3, 0, 2, 2, 4, 0, 0, 2, 2, 0, 0, 2, 0, 0, 0]
        second = [2, 3, 0, 2, 2, 4, 0, 0, 2, 1, 0, 2, 2, 2, 0, 0, 2, 0, 0, 0]
        self.assertEqual(told([[S], [joining], [S], [joining], [S]], S), [first, second])


class SupposedHead(unittest.TestCase):
    def test_one(self):
        self.assertEqual(told([[S]], over(S, LEFT_STEP)), [[1, 3, 0, 1, 2, 0, 0, 0]])
        self.assertEqual(told([[T], [X]], over(S, under(X, under(T, S)))), [[1, 3, 0, 2, 2, 1, 0, 0, 2, 0, 0, 0]])

    def test_several_one_within_the_other(self):
        # The first one is supposed behind, the second one before; the first one takes all else.
        self.assertEqual(told([[LEFT_STEP]], over(LEFT_STEP, LEFT_STEP)),
                         [[1, 1, 3, 0, 1, 2, 0, 0, 1, 3, 1, 0]])
        # Two that may both be heads: s / s before, s \ s behind.
        last_is_head = [1, 1, 3, 1, 1, 3, 0, 1, 2, 0, 0, 0]
        first_is_head = [1, 1, 3, 0, 1, 3, 1, 1, 2, 0, 0, 0]
        self.assertEqual(told([[S]], over(under(RIGHT_STEP, S), LEFT_STEP)), [last_is_head, first_is_head])
        self.assertEqual(told([[S]], under(RIGHT_STEP, over(S, LEFT_STEP))), [first_is_head, last_is_head])

    def test_within_a_part_that_a_supposed_head_takes(self):
        # It takes t as what asks for what asks for it, so another thing is supposed within that part.
        lifted = over(S, under(T, S))
        self.assertEqual(told([[T]], over(X, under(lifted, X))), [[1, 3, 0, 1, 1, 3, 1, 1, 2, 0, 0, 0]])

    def test_three_deep(self):
        wanted = over(over(over(S, T), X), S)
        self.assertEqual(told([[wanted]], wanted), [[1, 1, 1, 2, 0, 0, 3, 3, 0, 0, 3, 1, 0, 3, 2, 0]])


if __name__ == "__main__":
    unittest.main()
