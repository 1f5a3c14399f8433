"""Promise 6: reading, with every byte worked out by hand from the document's words."""

import unittest

from examples import hundred_thousand
from helper import ATOM, LARGEST, START, WORD, all_readings, ask, ask_lists, give, kind, last, many, reading
from model import Maker, over, under

S, T, X, Y = 0, 1, 2, 3

# Word 0 is an atom, word 1 has no kinds, word 2 asks for the atom at its right.
MADE = [ATOM, kind(1, 0, 0), WORD, WORD, WORD, give(0, 0), give(2, 1)]


def told(words, wanted):
    """All readings of a row of words, each a list of kinds as trees."""
    maker = Maker(4)
    row = [maker.word(*trees) for trees in words]
    number = maker.kind(wanted)
    return all_readings(maker.calls, number, row)


class Refusals(unittest.TestCase):
    def test_a_row_of_none(self):
        for i in (0, 1, 99999, 100000, LARGEST):
            self.assertEqual(last(MADE + [reading(0, i, [])]), -22)

    def test_rows_of_more_than_12(self):
        for count in (13, 20):
            for word in (0, 1, 2, 3, 255):
                with self.subTest(count=count, word=word):
                    self.assertEqual(last(MADE + [reading(0, 0, [word] * count)]), -22)

    def test_a_number_that_is_no_word(self):
        for row in ([3], [255], [0, 3], [3, 0], [2, 3, 0], [3] * 12):
            with self.subTest(row=row):
                self.assertEqual(last(MADE + [reading(0, 0, row)]), -22)

    def test_no_such_kind(self):
        for number in (2, 255, 256, LARGEST):
            for row in ([0], [1], [2, 0]):
                with self.subTest(number=number, row=row):
                    self.assertEqual(last(MADE + [reading(number, 0, row)]), -22)

    def test_i_above_99999(self):
        for i in (100000, 100001, LARGEST):
            for row in ([0], [1], [2, 0], [0, 0], [0] * 12, [0] * 13, [3]):
                with self.subTest(i=i, row=row):
                    self.assertEqual(last(MADE + [reading(0, i, row)]), -22)

    def test_not_more_than_i_readings(self):
        for i in (1, 2, 255, 256, 99998, 99999):
            self.assertEqual(last(MADE + [reading(0, i, [2, 0])]), -2)
        for row in ([1], [0, 0], [0, 2], [2], [0] * 12, [1] * 12):
            for i in (0, 1, 99999):
                with self.subTest(row=row, i=i):
                    self.assertEqual(last(MADE + [reading(0, i, row)]), -2)

    def test_not_valid_comes_before_not_there(self):
        self.assertEqual(ask(MADE + [reading(2, 99999, [1]), reading(0, 99999, [1, 3])])[-2:], [-22, -22])

    def test_refusals_change_nothing(self):
        refused = [reading(0, 0, []), reading(0, 0, [0] * 13), reading(0, 0, [3]), reading(2, 0, [0]),
                   reading(0, LARGEST, [0]), reading(0, 1, [0])]
        answered = ask_lists(MADE + refused + [reading(0, 0, [0]), WORD, ATOM, many(0, [0])])
        self.assertEqual(answered[-10:], [[-22]] * 5 + [[-2], [4, 2, 0, 0, 0], [3], [2], [1]])

    def test_behind_a_start_there_is_nothing_to_ask(self):
        asked = reading(0, 0, [0])
        calls = MADE + [asked, START, asked, ATOM, asked, WORD, asked]
        self.assertEqual(ask_lists(calls)[-7:], [[4, 2, 0, 0, 0], [0], [-22], [0], [-22], [0], [-2]])


class HowManyReadings(unittest.TestCase):
    def test_the_last_of_100000(self):
        row = range(11)
        answered = ask_lists(hundred_thousand(False) + [reading(2, 99999, row), reading(2, 100000, row)])
        self.assertEqual(answered[-2][0], len(answered[-2]) - 1)
        self.assertEqual(answered[-1], [-22])

    def test_where_many_refuses_readings_are_told_all_the_same(self):
        row = range(11)
        answered = ask_lists(hundred_thousand(True) + [reading(2, 99999, row), reading(2, 100000, row)])
        self.assertEqual(answered[-2][0], len(answered[-2]) - 1)
        self.assertEqual(answered[-1], [-22])


class Bytes(unittest.TestCase):
    def test_how_many_bytes_and_then_these(self):
        self.assertEqual(ask_lists(MADE + [reading(0, 0, [0])])[-1], [4, 2, 0, 0, 0])
        self.assertEqual(ask_lists(MADE + [reading(0, 0, [2, 0])])[-1], [8, 2, 0, 0, 1, 2, 1, 0, 0])

    def test_a_head_of_a_word(self):
        self.assertEqual(told([[S]], S), [[2, 0, 0, 0]])
        self.assertEqual(told([[T, X, S]], S), [[2, 0, 2, 0]])
        self.assertEqual(told([[T, X, Y, S]], S), [[2, 0, 3, 0]])

    def test_a_word_is_told_by_its_place_not_by_its_number(self):
        calls = [ATOM, kind(1, 0, 0)] + [WORD] * 9 + [give(8, 0), give(3, 1)]
        self.assertEqual(all_readings(calls, 0, [3, 3, 8]), [[2, 0, 0, 1, 2, 1, 0, 1, 2, 2, 0, 0]])

    def test_things_in_the_order_in_which_they_are_asked_for(self):
        self.assertEqual(told([[over(over(S, T), X)], [X], [T]], S), [[2, 0, 0, 2, 2, 1, 0, 0, 2, 2, 0, 0]])
        self.assertEqual(told([[T], [X], [under(X, under(T, S))]], S), [[2, 2, 0, 2, 2, 1, 0, 0, 2, 0, 0, 0]])
        self.assertEqual(told([[T], [over(under(T, S), X)], [X]], S), [[2, 1, 0, 2, 2, 2, 0, 0, 2, 0, 0, 0]])
        self.assertEqual(told([[T], [under(T, over(S, X))], [X]], S), [[2, 1, 0, 2, 2, 0, 0, 0, 2, 2, 0, 0]])

    def test_supposed_behind_and_before(self):
        self.assertEqual(told([[over(S, T)]], over(S, T)), [[1, 2, 0, 0, 1, 3, 0, 0]])
        self.assertEqual(told([[under(T, S)]], under(T, S)), [[1, 2, 0, 0, 1, 3, 0, 0]])

    def test_supposed_one_within_the_other(self):
        two_right = over(over(S, T), X)
        self.assertEqual(told([[two_right]], two_right), [[1, 1, 2, 0, 0, 2, 3, 0, 0, 3, 1, 0]])
        both = over(under(T, S), X)
        self.assertEqual(told([[both]], both), [[1, 1, 2, 0, 0, 2, 3, 0, 0, 3, 1, 0]])
        self.assertEqual(told([[under(T, over(S, X))]], both), [[1, 1, 2, 0, 0, 2, 3, 1, 0, 3, 0, 0]])
        self.assertEqual(told([[both]], under(T, over(S, X))), [[1, 1, 2, 0, 0, 2, 3, 1, 0, 3, 0, 0]])

    def test_what_is_read_to_the_end_counts_no_more(self):
        lifted = over(S, under(S, S))
        words = [[over(over(X, lifted), lifted)], [S], [S]]
        self.assertEqual(told(words, X), [[2, 0, 0, 2, 1, 3, 0, 1, 2, 1, 0, 0, 1, 3, 0, 1, 2, 2, 0, 0]])

    def test_what_is_supposed_around_a_part_counts_in_it(self):
        lifted = over(S, under(S, S))
        words = [[over(over(X, Y), lifted)], [S]]
        self.assertEqual(told(words, over(X, Y)), [[1, 2, 0, 0, 2, 1, 3, 1, 1, 2, 1, 0, 0, 3, 0, 0]])

    def test_all_are_whole_numbers(self):
        answered = ask_lists(MADE + [give(0, 1), reading(1, 0, [0]), reading(0, 0, [2, 0])])
        self.assertEqual({type(number) for answer in answered for number in answer}, {int})


class Order(unittest.TestCase):
    def test_heads_from_the_left(self):
        first = [2, 0, 0, 1, 2, 2, 0, 1, 2, 1, 0, 0]
        second = [2, 2, 0, 1, 2, 0, 0, 1, 2, 1, 0, 0]
        self.assertEqual(told([[over(S, S)], [S], [under(S, S)]], S), [first, second])

    def test_a_supposed_head_in_its_place(self):
        # s / s, s, and a supposed s \ s behind them; then a supposed s / s ahead of s, s \ s.
        first = [1, 2, 0, 0, 1, 3, 0, 1, 2, 1, 0, 0]
        second = [1, 3, 0, 1, 2, 0, 0, 1, 2, 1, 0, 0]
        self.assertEqual(told([[over(S, S)], [S]], over(S, under(S, S))), [first, second])
        first = [1, 3, 0, 1, 2, 1, 0, 1, 2, 0, 0, 0]
        second = [1, 2, 1, 0, 1, 3, 0, 1, 2, 0, 0, 0]
        self.assertEqual(told([[S], [under(S, S)]], under(over(S, S), S)), [first, second])

    def test_the_fewest_are_taken_first_at_the_right(self):
        step = over(S, S)
        head = over(over(X, step), step)
        one = [2, 0, 0, 2, 1, 2, 1, 0, 1, 3, 0, 0, 1, 2, 2, 0, 1, 2, 3, 0, 1, 3, 0, 0]
        two = [2, 0, 0, 2, 1, 2, 1, 0, 1, 2, 2, 0, 1, 3, 0, 0, 1, 2, 3, 0, 1, 3, 0, 0]
        self.assertEqual(told([[head], [step], [step], [step]], X), [one, two])

    def test_the_fewest_are_taken_first_at_the_left(self):
        step = under(S, S)
        head = under(step, under(step, X))
        one = [2, 3, 0, 2, 1, 2, 2, 0, 1, 3, 0, 0, 1, 2, 1, 0, 1, 2, 0, 0, 1, 3, 0, 0]
        two = [2, 3, 0, 2, 1, 2, 2, 0, 1, 2, 1, 0, 1, 3, 0, 0, 1, 2, 0, 0, 1, 3, 0, 0]
        self.assertEqual(told([[step], [step], [step], [head]], X), [one, two])

    def test_how_the_first_is_read_comes_before_how_the_next_is(self):
        modified = [[over(S, S)], [S], [under(S, S)]]

        def part(at, way):
            left, middle, right = ([2, at + place, 0] for place in range(3))
            outer, inner = (left, right) if way == 0 else (right, left)
            return outer + [1] + inner + [1] + middle + [0]

        ways = [(0, 0), (0, 1), (1, 0), (1, 1)]
        at_the_right = [[over(over(X, S), S)]] + modified + modified
        expected = [[2, 0, 0, 2] + part(1, first) + part(4, second) for first, second in ways]
        self.assertEqual(told(at_the_right, X), expected)
        right_first = modified + [[over(under(S, X), S)]] + modified
        expected = [[2, 3, 0, 2] + part(4, first) + part(0, second) for first, second in ways]
        self.assertEqual(told(right_first, X), expected)
        left_first = modified + [[under(S, over(X, S))]] + modified
        expected = [[2, 3, 0, 2] + part(0, first) + part(4, second) for first, second in ways]
        self.assertEqual(told(left_first, X), expected)

    def test_choices_of_kinds_the_last_changes_first(self):
        joining = [over(under(S, S), S), under(S, over(S, S))]

        def leaf(at):
            return [2, at, 0, 0]

        def joined(at, which, left, right):
            # The first kind asks to the right first, the second one to the left.
            return [2, at, which, 2] + (right + left if which == 0 else left + right)

        expected = []
        for one, two in ((0, 0), (0, 1), (1, 0), (1, 1)):
            expected.append(joined(1, one, leaf(0), joined(3, two, leaf(2), leaf(4))))
            expected.append(joined(3, two, joined(1, one, leaf(0), leaf(2)), leaf(4)))
        self.assertEqual(told([[S], joining, [S], joining, [S]], S), expected)

    def test_choices_of_kinds_come_before_the_heads(self):
        # By its first kind the last word is the head, by its second one the first word is.
        words = [[S, over(S, T)], [under(S, S), T]]
        self.assertEqual(told(words, S), [[2, 1, 0, 1, 2, 0, 0, 0], [2, 0, 1, 1, 2, 1, 1, 0]])

    def test_choices_without_readings_are_passed_over(self):
        words = [[T, X, over(S, Y)], [S, X, T, Y]]
        self.assertEqual(told(words, S), [[2, 0, 2, 1, 2, 1, 3, 0]])
        self.assertEqual(told([[T, S], [X, T, Y, under(S, S)]], S), [[2, 1, 3, 1, 2, 0, 1, 0]])


if __name__ == "__main__":
    unittest.main()
