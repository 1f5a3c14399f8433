"""Promise 4: give."""

import unittest

from helper import ATOM, LARGEST, START, WORD, all_readings, ask, give, kind, last, many

# Atoms 0 to 5, and words 0 and 1.
MADE = [ATOM] * 6 + [WORD] * 2
FOUR = [give(0, 3), give(0, 1), give(0, 2), give(0, 0)]


def behind(made, calls):
    return ask(made + calls)[len(made):]


class Given(unittest.TestCase):
    def test_0_for_each_of_four(self):
        self.assertEqual(behind(MADE, FOUR), [0, 0, 0, 0])

    def test_each_word_has_kinds_of_its_own(self):
        self.assertEqual(behind(MADE, [give(0, 2), give(1, 2), give(1, 3), give(0, 3)]), [0, 0, 0, 0])
        self.assertEqual(behind(MADE, FOUR + [give(1, number) for number in range(4)]), [0] * 8)

    def test_kinds_that_ask_are_given_too(self):
        made = [ATOM, kind(1, 0, 0), kind(2, 0, 1), WORD]
        self.assertEqual(behind(made, [give(0, 2), give(0, 1), give(0, 0), give(0, 2)]), [0, 0, 0, -17])

    def test_the_last_of_256_words_and_of_256_kinds(self):
        self.assertEqual(last([ATOM] * 2 + [WORD] * 256 + [give(255, 1)]), 0)
        self.assertEqual(last([WORD] * 2 + [ATOM] * 256 + [give(1, 255)]), 0)

    def test_no_call_is_answered_otherwise_for_it(self):
        calls = MADE + FOUR + [ATOM, WORD, kind(1, 0, 1), kind(1, 0, 1)]
        self.assertEqual(ask(calls)[-4:], [6, 2, 7, 7])


class NoSuchWordOrKind(unittest.TestCase):
    def test_no_such_word(self):
        for word in (2, 3, 255, 256, LARGEST):
            with self.subTest(word=word):
                self.assertEqual(last(MADE + [give(word, 0)]), -22)

    def test_no_such_kind(self):
        for number in (6, 7, 255, 256, LARGEST):
            with self.subTest(number=number):
                self.assertEqual(last(MADE + [give(0, number)]), -22)

    def test_neither(self):
        self.assertEqual(ask([give(0, 0), give(LARGEST, LARGEST)]), [-22, -22])
        self.assertEqual(last(MADE + [give(2, 6)]), -22)

    def test_a_kind_without_a_word_and_a_word_without_a_kind(self):
        self.assertEqual(ask([ATOM, give(0, 0)]), [0, -22])
        self.assertEqual(ask([WORD, give(0, 0)]), [0, -22])

    def test_word_and_kind_are_not_mixed_up(self):
        self.assertEqual(behind(MADE, [give(1, 5), give(5, 1)]), [0, -22])
        self.assertEqual(ask([ATOM] + [WORD] * 4 + [give(3, 0), give(0, 3)])[5:], [0, -22])

    def test_it_comes_before_no_room(self):
        self.assertEqual(behind(MADE, FOUR + [give(0, 6), give(0, LARGEST), give(2, 4)])[4:], [-22, -22, -22])


class HasItAlready(unittest.TestCase):
    def test_a_second_time(self):
        self.assertEqual(behind(MADE, [give(0, 1), give(0, 1), give(0, 1)]), [0, -17, -17])

    def test_each_of_several(self):
        self.assertEqual(behind(MADE, FOUR[:3] + FOUR[:3]), [0, 0, 0, -17, -17, -17])

    def test_also_where_it_has_four(self):
        self.assertEqual(behind(MADE, FOUR + FOUR), [0] * 4 + [-17] * 4)

    def test_a_kind_that_was_told_again_is_the_same(self):
        calls = [ATOM, kind(1, 0, 0), WORD, give(0, 1), kind(1, 0, 0), give(0, 1)]
        self.assertEqual(ask(calls), [0, 1, 0, 0, 1, -17])


class NoRoom(unittest.TestCase):
    def test_a_fifth(self):
        self.assertEqual(behind(MADE, FOUR + [give(0, 4), give(0, 5), give(0, 4)])[4:], [-28, -28, -28])

    def test_the_other_word_has_room(self):
        self.assertEqual(behind(MADE, FOUR + [give(0, 4), give(1, 4), give(1, 5)])[4:], [-28, 0, 0])


class RefusalsChangeNothing(unittest.TestCase):
    def kinds_of_word_0(self, calls):
        """By the place that the reading as each atom tells; None where the word isn't read as it."""
        found = []
        for number in range(6):
            told = all_readings(calls, number, [0])
            self.assertLessEqual(len(told), 1)
            found.append(told[0][2] if told else None)
        return found

    def test_kinds_stay_in_the_order_in_which_they_were_given(self):
        self.assertEqual(self.kinds_of_word_0(MADE + FOUR), [3, 1, 2, 0, None, None])
        self.assertEqual(self.kinds_of_word_0(MADE + FOUR[:2]), [None, 1, None, 0, None, None])
        self.assertEqual(self.kinds_of_word_0(MADE), [None] * 6)

    def test_behind_refusals_as_before_them(self):
        for given in (0, 1, 2, 3, 4):
            refused = FOUR[:given] + [give(0, 6), give(0, LARGEST), give(2, 0)]
            if given == 4:
                refused += [give(0, 4), give(0, 5)]
            with self.subTest(given=given):
                calls = MADE + FOUR[:given]
                self.assertTrue(all(number < 0 for number in behind(calls, refused)))
                self.assertEqual(self.kinds_of_word_0(calls + refused), self.kinds_of_word_0(calls))

    def test_room_is_left_behind_refusals(self):
        calls = FOUR[:3] + FOUR[:3] + [give(0, 6), give(0, 5), give(0, 4)]
        self.assertEqual(behind(MADE, calls)[6:], [-22, 0, -28])


class BehindAStart(unittest.TestCase):
    def test_there_are_no_words_and_no_kinds(self):
        self.assertEqual(behind(MADE, FOUR + [START, give(0, 0)])[4:], [0, -22])
        self.assertEqual(behind(MADE, FOUR + [START, ATOM, give(0, 0)])[4:], [0, 0, -22])

    def test_a_word_has_no_kinds_there(self):
        calls = MADE + FOUR + [START] + MADE
        self.assertEqual(behind(calls, [many(number, [0]) for number in range(6)]), [0] * 6)
        self.assertEqual(behind(calls, FOUR + [give(0, 4)]), [0, 0, 0, 0, -28])


if __name__ == "__main__":
    unittest.main()
