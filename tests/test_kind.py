"""Promise 2: kind."""

import unittest

from helper import ATOM, LARGEST, START, WORD, ask, kind, last

# Kinds 0 to 4, of the weights 1, 2, 4, 8 and 12.
WEIGHTS_TO_12 = [ATOM, kind(1, 0, 0), kind(2, 1, 1), kind(1, 2, 2), kind(2, 3, 2)]
# 256 kinds: those of WEIGHTS_TO_12, and atoms from 5 on.
FULL = WEIGHTS_TO_12 + [ATOM] * 251


class Atoms(unittest.TestCase):
    def test_each_atom_is_new(self):
        self.assertEqual(ask([ATOM, ATOM, ATOM]), [0, 1, 2])

    def test_a_or_b_is_not_0(self):
        for a, b in ((1, 0), (0, 1), (1, 1), (LARGEST, 0), (0, LARGEST), (LARGEST, LARGEST)):
            with self.subTest(a=a, b=b):
                self.assertEqual(ask([kind(0, a, b)]), [-22])
                self.assertEqual(ask([ATOM, ATOM, kind(0, a, b)]), [0, 1, -22])

    def test_room_for_256(self):
        self.assertEqual(ask([ATOM] * 256), list(range(256)))
        self.assertEqual(ask([ATOM] * 258)[255:], [255, -28, -28])

    def test_no_room_where_other_kinds_are_among_the_256(self):
        self.assertEqual(ask(FULL), list(range(256)))
        self.assertEqual(last(FULL + [ATOM]), -28)

    def test_words_take_no_room_of_kinds(self):
        self.assertEqual(last([WORD] * 143 + [ATOM] * 256), 255)


class AskingKinds(unittest.TestCase):
    def test_new_kinds_are_numbered_with_the_atoms(self):
        self.assertEqual(ask([ATOM, kind(1, 0, 0), ATOM, kind(2, 0, 2), ATOM]), [0, 1, 2, 3, 4])

    def test_that_is_a_kind_already(self):
        for how in (1, 2):
            with self.subTest(how=how):
                calls = [ATOM, ATOM, kind(how, 0, 1), ATOM, kind(how, 0, 1), kind(how, 0, 1), ATOM]
                self.assertEqual(ask(calls), [0, 1, 2, 3, 2, 2, 4])

    def test_nested_kinds_that_are_there_already(self):
        made = [ATOM, ATOM, kind(1, 0, 1), kind(2, 2, 0), kind(1, 3, 2), kind(2, 4, 4)]
        self.assertEqual(ask(made + made[2:]), [0, 1, 2, 3, 4, 5, 2, 3, 4, 5])

    def test_asking_right_and_asking_left_are_two_kinds(self):
        self.assertEqual(ask([ATOM, kind(1, 0, 0), kind(2, 0, 0), kind(1, 0, 0), kind(2, 0, 0)]), [0, 1, 2, 1, 2])
        self.assertEqual(ask([ATOM, ATOM, kind(1, 0, 1), kind(2, 0, 1), kind(2, 1, 0)]), [0, 1, 2, 3, 4])

    def test_what_is_given_and_what_is_asked_for_are_told_apart(self):
        for how in (1, 2):
            with self.subTest(how=how):
                calls = [ATOM, ATOM, kind(how, 0, 1), kind(how, 1, 0), kind(how, 0, 1), kind(how, 1, 0)]
                self.assertEqual(ask(calls), [0, 1, 2, 3, 2, 3])

    def test_kinds_over_different_atoms_are_different(self):
        self.assertEqual(ask([ATOM, ATOM, kind(1, 0, 0), kind(1, 1, 1), kind(1, 0, 1)]), [0, 1, 2, 3, 4])

    def test_an_atom_is_no_kind_that_asks(self):
        self.assertEqual(ask([ATOM, ATOM, kind(1, 0, 0), kind(2, 0, 0), ATOM]), [0, 1, 2, 3, 4])

    def test_a_or_b_is_no_kind(self):
        for how in (1, 2):
            with self.subTest(how=how):
                self.assertEqual(ask([kind(how, 0, 0)]), [-22])
                self.assertEqual(ask([ATOM, kind(how, 1, 0), kind(how, 0, 1), kind(how, 1, 1)]), [0, -22, -22, -22])
                self.assertEqual(ask([ATOM, kind(how, LARGEST, 0), kind(how, 0, LARGEST)]), [0, -22, -22])
                self.assertEqual(ask([ATOM, kind(how, LARGEST, LARGEST), kind(how, 0, 0)]), [0, -22, 1])

    def test_the_number_of_the_kind_itself_is_no_kind_yet(self):
        self.assertEqual(ask([ATOM, kind(1, 0, 1), kind(1, 0, 0), kind(1, 0, 1)]), [0, -22, 1, 2])

    def test_a_word_is_no_kind(self):
        self.assertEqual(ask([WORD, WORD, kind(1, 0, 1), kind(2, 0, 0)]), [0, 1, -22, -22])

    def test_the_last_of_256_is_a_kind_and_256_is_not(self):
        atoms = [ATOM] * 256
        self.assertEqual(last(atoms + [kind(1, 255, 255)]), -28)
        self.assertEqual(last(atoms + [kind(1, 256, 0)]), -22)
        self.assertEqual(last(atoms + [kind(1, 0, 256)]), -22)
        self.assertEqual(last([ATOM] * 255 + [kind(2, 254, 254), kind(2, 255, 254)]), -28)
        self.assertEqual(ask([ATOM] * 255 + [kind(2, 254, 254), kind(2, 254, 254)])[255:], [255, 255])


class OtherHows(unittest.TestCase):
    def test_how_above_2(self):
        for how in (3, 4, 255, 256, LARGEST):
            with self.subTest(how=how):
                self.assertEqual(ask([kind(how, 0, 0)]), [-22])
                self.assertEqual(ask([ATOM, kind(how, 0, 0), ATOM]), [0, -22, 1])
                self.assertEqual(ask([ATOM, kind(how, LARGEST, LARGEST)]), [0, -22])


class Weights(unittest.TestCase):
    def test_a_weight_of_12_and_one_of_13(self):
        for how in (1, 2):
            with self.subTest(how=how):
                self.assertEqual(last(WEIGHTS_TO_12[:4] + [kind(how, 3, 2)]), 4)
                self.assertEqual(last(WEIGHTS_TO_12[:4] + [kind(how, 2, 3)]), 4)
                self.assertEqual(last(WEIGHTS_TO_12 + [kind(how, 4, 0)]), -34)
                self.assertEqual(last(WEIGHTS_TO_12 + [kind(how, 0, 4)]), -34)

    def test_each_weight_one_by_one(self):
        for how in (1, 2):
            for heavy_first in (True, False):
                with self.subTest(how=how, heavy_first=heavy_first):
                    steps = [kind(how, i, 0) if heavy_first else kind(how, 0, i) for i in range(12)]
                    self.assertEqual(ask([ATOM] + steps), list(range(12)) + [-34])

    def test_far_above_12(self):
        self.assertEqual(last(WEIGHTS_TO_12 + [kind(1, 3, 3)]), -34)
        self.assertEqual(last(WEIGHTS_TO_12 + [kind(2, 4, 4)]), -34)

    def test_both_parts_count(self):
        sixes = [ATOM, kind(1, 0, 0), kind(1, 1, 0), kind(1, 2, 2), kind(1, 3, 0)]
        self.assertEqual(ask(sixes + [kind(1, 3, 3), kind(1, 3, 4), kind(1, 4, 3)]), [0, 1, 2, 3, 4, 5, -34, -34])

    def test_a_kind_of_weight_12_is_found_again(self):
        self.assertEqual(last(WEIGHTS_TO_12 + [kind(2, 3, 2)]), 4)


class OrderOfRefusals(unittest.TestCase):
    def test_not_valid_comes_before_too_heavy(self):
        for how in (1, 2):
            with self.subTest(how=how):
                self.assertEqual(last(WEIGHTS_TO_12 + [kind(how, 4, 5)]), -22)
                self.assertEqual(last(WEIGHTS_TO_12 + [kind(how, 5, 4)]), -22)
        self.assertEqual(last(WEIGHTS_TO_12 + [kind(3, 4, 4)]), -22)
        self.assertEqual(last(WEIGHTS_TO_12 + [kind(0, 4, 4)]), -22)

    def test_not_valid_comes_before_no_room(self):
        for call in (kind(0, 1, 0), kind(0, 0, 1), kind(1, 256, 0), kind(1, 0, LARGEST), kind(2, LARGEST, 0),
                     kind(2, 0, 256), kind(3, 0, 0), kind(LARGEST, 0, 0), kind(1, 4, 256), kind(2, 256, 4)):
            with self.subTest(call=call):
                self.assertEqual(last(FULL + [call]), -22)

    def test_too_heavy_comes_before_no_room(self):
        for call in (kind(1, 4, 0), kind(2, 0, 4), kind(1, 3, 3), kind(2, 4, 4)):
            with self.subTest(call=call):
                self.assertEqual(last(FULL + [call]), -34)

    def test_a_kind_that_is_there_is_told_where_there_is_no_room(self):
        self.assertEqual(ask(FULL + WEIGHTS_TO_12[1:])[256:], [1, 2, 3, 4])

    def test_a_new_kind_where_there_is_no_room(self):
        for call in (kind(1, 5, 5), kind(2, 0, 0), kind(1, 1, 1), kind(2, 2, 3), ATOM):
            with self.subTest(call=call):
                self.assertEqual(ask(FULL + [call, call])[256:], [-28, -28])


class RefusalsChangeNothing(unittest.TestCase):
    def test_the_next_number_is_the_same(self):
        refused = [kind(3, 0, 0), kind(LARGEST, 0, 0), kind(0, 0, 1), kind(0, 1, 0), kind(1, 0, 9), kind(2, 9, 0),
                   kind(1, LARGEST, 0), kind(1, 4, 0), kind(2, 0, 4)]
        wanted = [-22] * 7 + [-34] * 2
        told = ask(WEIGHTS_TO_12 + refused + [ATOM] + refused + [kind(1, 0, 5), WORD])
        self.assertEqual(told, [0, 1, 2, 3, 4] + wanted + [5] + wanted + [6, 0])

    def test_a_refused_kind_is_not_there_later(self):
        self.assertEqual(ask([ATOM, kind(1, 0, 1), ATOM, ATOM, kind(1, 0, 1), kind(1, 0, 1)]), [0, -22, 1, 2, 3, 3])
        self.assertEqual(ask(WEIGHTS_TO_12 + [kind(1, 4, 0), kind(1, 4, 0), kind(1, 5, 0)])[5:], [-34, -34, -22])

    def test_no_room_leaves_kinds_and_words_as_they_were(self):
        told = ask(FULL + [ATOM, kind(1, 5, 5), kind(1, 256, 0), kind(1, 0, 0), WORD, START, ATOM])
        self.assertEqual(told[256:], [-28, -28, -22, 1, 0, 0, 0])


if __name__ == "__main__":
    unittest.main()
