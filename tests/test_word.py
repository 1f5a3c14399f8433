"""Promise 3: word."""

import unittest

from helper import ATOM, START, WORD, ask, kind


class Words(unittest.TestCase):
    def test_numbers_from_0_on(self):
        self.assertEqual(ask([WORD, WORD, WORD]), [0, 1, 2])

    def test_the_256th_and_the_one_behind_it(self):
        self.assertEqual(ask([WORD] * 256), list(range(256)))
        self.assertEqual(ask([WORD] * 258)[255:], [255, -28, -28])

    def test_kinds_take_no_room_of_words(self):
        self.assertEqual(ask([ATOM] * 143 + [WORD] * 257)[143:], list(range(256)) + [-28])
        self.assertEqual(ask([ATOM] * 256 + [WORD, ATOM, WORD])[256:], [0, -28, 1])

    def test_words_and_kinds_are_numbered_apart(self):
        self.assertEqual(ask([WORD, ATOM, WORD, kind(1, 0, 0), WORD, ATOM]), [0, 0, 1, 1, 2, 2])

    def test_a_refusal_changes_nothing(self):
        told = ask([WORD] * 256 + [WORD, ATOM, WORD, kind(1, 0, 0), START, WORD])
        self.assertEqual(told[256:], [-28, 0, -28, 1, 0, 0])


if __name__ == "__main__":
    unittest.main()
