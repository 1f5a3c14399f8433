"""Promise 5: many."""

import unittest

from examples import hundred_thousand
from helper import ATOM, LARGEST, START, WORD, ask, give, kind, last, many
from model import Maker, over, under

S, T, X = 0, 1, 2

# Word 0 is an atom, word 1 has no kinds, word 2 asks for the atom at its right.
MADE = [ATOM, kind(1, 0, 0), WORD, WORD, WORD, give(0, 0), give(2, 1)]


def how_many(words, wanted):
    """How many readings there are of a row of words, each a list of kinds as trees."""
    maker = Maker(3)
    row = [maker.word(*trees) for trees in words]
    number = maker.kind(wanted)
    return last(maker.calls + [many(number, row)])


class NotValid(unittest.TestCase):
    def test_a_row_of_none(self):
        self.assertEqual(last(MADE + [many(0, [])]), -22)
        self.assertEqual(ask([many(0, [])]), [-22])

    def test_rows_of_more_than_12(self):
        for count in (13, 14, 19, 20):
            for word in (0, 1, 2, 3, 255):
                with self.subTest(count=count, word=word):
                    self.assertEqual(last(MADE + [many(0, [word] * count)]), -22)
                    self.assertEqual(last(MADE + [many(9, [word] * count)]), -22)

    def test_rows_of_1_and_of_12_are_valid(self):
        self.assertEqual(last(MADE + [many(0, [0])]), 1)
        self.assertEqual(last(MADE + [many(0, [0] * 12)]), 0)
        self.assertEqual(last(MADE + [many(0, [1] * 12)]), 0)

    def test_a_number_that_is_no_word(self):
        for row in ([3], [255], [0, 3], [3, 0], [2, 3, 0], [2, 255], [1, 3], [3] * 12):
            with self.subTest(row=row):
                self.assertEqual(last(MADE + [many(0, row)]), -22)

    def test_no_such_kind(self):
        for number in (2, 3, 255, 256, LARGEST):
            for row in ([0], [1], [2, 0], [1] * 12):
                with self.subTest(number=number, row=row):
                    self.assertEqual(last(MADE + [many(number, row)]), -22)

    def test_the_last_of_256_words_and_of_256_kinds(self):
        self.assertEqual(ask([ATOM] + [WORD] * 256 + [give(255, 0), many(0, [255])])[-2:], [0, 1])
        self.assertEqual(ask([WORD] + [ATOM] * 256 + [give(0, 255), many(255, [0]), many(256, [0])])[-3:], [0, 1, -22])
        self.assertEqual(ask([ATOM] + [WORD] * 255 + [many(0, [254]), many(0, [255])])[-2:], [0, -22])

    def test_behind_a_start_there_is_nothing_to_ask(self):
        self.assertEqual(ask(MADE + [START, many(0, [0]), ATOM, many(0, [0]), WORD, many(0, [0])])[-6:],
                         [0, -22, 0, -22, 0, 0])

    def test_refusals_change_nothing(self):
        refused = [many(0, []), many(0, [0] * 13), many(0, [3]), many(2, [0]), many(LARGEST, [255])]
        told = ask(MADE + refused + [many(0, [2, 0]), WORD, ATOM, many(0, [3]), many(2, [0])])
        self.assertEqual(told[-10:], [-22] * 5 + [1, 3, 2, 0, 0])


class NoReadings(unittest.TestCase):
    def test_another_atom(self):
        self.assertEqual(how_many([[S]], T), 0)

    def test_what_is_asked_for_is_not_there(self):
        self.assertEqual(how_many([[over(S, T)]], S), 0)
        self.assertEqual(how_many([[under(T, S)]], S), 0)

    def test_it_is_at_the_wrong_side(self):
        self.assertEqual(how_many([[T], [over(S, T)]], S), 0)
        self.assertEqual(how_many([[under(T, S)], [T]], S), 0)

    def test_something_is_left(self):
        self.assertEqual(how_many([[S], [S]], S), 0)
        self.assertEqual(how_many([[over(S, T)], [T], [T]], S), 0)
        self.assertEqual(how_many([[T], [T], [under(T, S)]], S), 0)

    def test_at_least_one_is_taken(self):
        self.assertEqual(how_many([[over(S, over(T, T))]], S), 0)
        self.assertEqual(how_many([[under(under(T, T), S)]], S), 0)

    def test_a_word_without_kinds_anywhere(self):
        self.assertEqual(how_many([[]], S), 0)
        self.assertEqual(how_many([[], [S]], S), 0)
        self.assertEqual(how_many([[over(S, T)], []], S), 0)
        self.assertEqual(how_many([[over(S, S)], [], [S]], S), 0)


class SomeReadings(unittest.TestCase):
    def test_a_kind_is_read_as_itself(self):
        for tree in (S, over(S, T), under(T, S), over(over(S, T), X), under(T, over(S, X)), over(S, over(T, X))):
            with self.subTest(tree=tree):
                self.assertEqual(how_many([[tree]], tree), 1)

    def test_what_is_asked_for_at_each_side(self):
        self.assertEqual(how_many([[over(S, T)], [T]], S), 1)
        self.assertEqual(how_many([[T], [under(T, S)]], S), 1)
        self.assertEqual(how_many([[X], [over(under(X, S), T)], [T]], S), 1)

    def test_kinds_that_ask_put_together(self):
        self.assertEqual(how_many([[over(S, T)], [over(T, X)]], over(S, X)), 1)
        self.assertEqual(how_many([[under(X, T)], [under(T, S)]], under(X, S)), 1)
        self.assertEqual(how_many([[under(X, over(S, T))]], over(under(X, S), T)), 1)

    def test_modifiers_at_both_sides(self):
        # They may be taken in any order in which those of one side keep theirs.
        for left, right, expected in ((1, 1, 2), (2, 1, 3), (2, 2, 6), (3, 3, 20), (3, 4, 35), (0, 7, 1), (7, 0, 1)):
            with self.subTest(left=left, right=right):
                words = [[over(S, S)]] * left + [[S]] + [[under(S, S)]] * right
                self.assertEqual(how_many(words, S), expected)

    def test_joining_words(self):
        # As many as there are ways to put brackets.
        for count, expected in ((1, 1), (2, 2), (3, 5)):
            with self.subTest(count=count):
                words = [[S]] + [[over(under(S, S), S)], [S]] * count
                self.assertEqual(how_many(words, S), expected)

    def test_over_several_kinds_of_the_words(self):
        joining = [over(under(S, S), S), under(S, over(S, S))]
        self.assertEqual(how_many([[S], joining, [S], joining, [S]], S), 8)
        self.assertEqual(how_many([[T, S], [X, under(S, S)]], S), 1)
        self.assertEqual(how_many([[over(S, S), under(S, S)], [S], [over(S, S), under(S, S)]], S), 2)
        self.assertEqual(how_many([[over(S, T), S], [T, under(S, S)]], S), 2)

    def test_only_kinds_that_were_given_by_then(self):
        calls = [ATOM, WORD, many(0, [0]), give(0, 0), many(0, [0]), kind(1, 0, 0), give(0, 1), many(0, [0, 0])]
        self.assertEqual(ask(calls), [0, 0, 0, 0, 1, 1, 0, 1])

    def test_a_word_more_than_once(self):
        self.assertEqual(last(MADE + [many(0, [2, 2, 2, 2, 0])]), 1)
        self.assertEqual(last(MADE + [give(0, 1), many(0, [0, 0])]), 1)


class TooMany(unittest.TestCase):
    def test_100000(self):
        self.assertEqual(last(hundred_thousand(False) + [many(2, range(11))]), 100000)

    def test_100001(self):
        self.assertEqual(last(hundred_thousand(True) + [many(2, range(11))]), -75)

    def test_a_refusal_changes_nothing(self):
        calls = hundred_thousand(True)
        told = ask(calls + [many(2, range(11)), many(7, [10]), many(13, [10]), many(2, range(11)), ATOM])
        self.assertEqual(told[len(calls):len(calls) + 4], [-75, 1, 1, -75])


if __name__ == "__main__":
    unittest.main()
