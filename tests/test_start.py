"""Promise 1: start."""

import unittest

from helper import ATOM, START, WORD, ask, kind


class Start(unittest.TestCase):
    def test_start_answers_0(self):
        self.assertEqual(ask([START]), [0])
        self.assertEqual(ask([START, START, START]), [0, 0, 0])

    def test_a_list_need_not_begin_with_start(self):
        calls = [ATOM, WORD, kind(1, 0, 0), WORD]
        self.assertEqual(ask(calls), [0, 0, 1, 1])
        self.assertEqual(ask([START] + calls), [0, 0, 0, 1, 1])

    def test_start_answers_0_where_there_are_kinds_and_words(self):
        self.assertEqual(ask([ATOM, ATOM, WORD, WORD, START]), [0, 1, 0, 1, 0])

    def test_start_anywhere_and_numbers_begin_at_0_again(self):
        calls = [ATOM, ATOM, WORD, WORD, START, ATOM, WORD, ATOM, START, WORD, ATOM]
        self.assertEqual(ask(calls), [0, 1, 0, 1, 0, 0, 0, 1, 0, 0, 0])

    def test_behind_a_start_there_are_no_kinds(self):
        self.assertEqual(ask([ATOM, START, kind(1, 0, 0), kind(2, 0, 0)]), [0, 0, -22, -22])

    def test_behind_a_start_a_kind_is_new_again(self):
        calls = [ATOM, ATOM, kind(1, 0, 1), START, ATOM, ATOM, ATOM, kind(1, 0, 1)]
        self.assertEqual(ask(calls), [0, 1, 2, 0, 0, 1, 2, 3])

    def test_behind_a_start_weights_are_those_of_the_new_kinds(self):
        heavy_at_1 = [ATOM, kind(1, 0, 0), kind(1, 1, 1), kind(1, 2, 2)]
        self.assertEqual(ask(heavy_at_1 + [kind(1, 3, 3), START] + [ATOM] * 4 + [kind(1, 3, 3)])[4:],
                         [-34, 0, 0, 1, 2, 3, 4])

    def test_behind_a_start_there_is_room_again(self):
        self.assertEqual(ask([ATOM] * 257 + [START, ATOM, WORD])[256:], [-28, 0, 0, 0])
        self.assertEqual(ask([WORD] * 257 + [START, WORD, ATOM])[256:], [-28, 0, 0, 0])

    def test_behind_a_start_as_at_the_beginning(self):
        calls = [ATOM, kind(2, 0, 0), WORD, kind(2, 0, 0), kind(1, 1, 2), kind(1, 1, 0), WORD, kind(0, 1, 0)]
        alone = ask(calls)
        self.assertEqual(ask(calls + [START] + calls), alone + [0] + alone)


if __name__ == "__main__":
    unittest.main()
