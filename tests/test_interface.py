"""The interface: how calls and answers are written, and that nothing is kept."""

import unittest

from askright.kinds import answers
from helper import ATOM, LARGEST, START, WORD, ask, ask_lists, give, joined, kind, many, reading

MIXED = [ATOM, WORD, kind(1, 0, 0), kind(2, 0, 1), kind(3, 0, 0), give(0, 0), many(0, [0]), reading(0, 0, [0]), START,
         ATOM, ATOM, kind(1, 1, 0), WORD, WORD, give(1, 2), give(0, 0), give(0, 0), many(1, [1, 0]),
         reading(1, 0, [1, 0]), reading(1, 1, [1, 0]), reading(2, 0, [1]), many(0, []), many(0, [1] * 20), give(2, 0)]
MIXED_ANSWERS = [[0], [0], [1], [2], [-22], [0], [1], [4, 2, 0, 0, 0], [0],
                 [0], [1], [2], [0], [1], [0], [0], [-17], [1],
                 [8, 2, 0, 0, 1, 2, 1, 0, 0], [-2], [8, 1, 2, 0, 0, 1, 3, 0, 0], [-22], [-22], [-22]]


class ReadOnlyList(list):
    """Fails as soon as it is changed, even if it were changed back later."""

    def refuse(self, *args, **kwargs):
        raise AssertionError("what was handed in is changed")

    __setitem__ = __delitem__ = __iadd__ = __imul__ = refuse
    append = extend = insert = pop = remove = clear = sort = reverse = refuse


class HowAnswersAreWritten(unittest.TestCase):
    def test_the_empty_list_answers_the_empty_list(self):
        told = answers([])
        self.assertEqual(told, [])
        self.assertIs(type(told), list)

    def test_each_answer_is_its_count_and_then_its_numbers(self):
        self.assertEqual(answers([0]), [1, 0])
        self.assertEqual(answers([2]), [1, 0])
        self.assertEqual(answers([1, 0, 0, 0]), [1, 0])
        self.assertEqual(answers([2, 2, 1, 0, 0, 0, 1, 1, 0, 0]), [1, 0, 1, 1, 1, 0, 1, 1])

    def test_a_refusal_is_its_number_alone(self):
        self.assertEqual(answers([1, 3, 0, 0]), [1, -22])
        self.assertEqual(answers([1, 1, 0, 0, 2]), [1, -22, 1, 0])
        self.assertEqual(answers([3, 0, 0, 4, 0, 0, 5, 0, 0, 0]), [1, -22, 1, -22, 1, -22])
        self.assertEqual(answers([1, 0, 0, 0, 2, 4, 0, 1, 0, 5, 0, 0, 1, 0]), [1, 0, 1, 0, 1, 0, 1, -2])

    def test_a_reading_is_how_many_bytes_and_then_these(self):
        calls = [1, 0, 0, 0, 2, 3, 0, 0, 4, 0, 1, 0, 5, 0, 0, 1, 0, 2]
        self.assertEqual(answers(calls), [1, 0, 1, 0, 1, 0, 1, 1, 5, 4, 2, 0, 0, 0, 1, 1])

    def test_the_example_of_the_readme(self):
        made = [1, 0, 0, 0, 1, 1, 0, 0, 1, 2, 0, 0, 2, 2, 2, 3, 0, 1, 3, 1, 0, 3, 2, 2]
        self.assertEqual(answers(made + [4, 0, 3, 0, 1, 2])[-2:], [1, 2])
        self.assertEqual(answers(made + [5, 0, 0, 3, 0, 1, 2])[-14:], [13, 12, 2, 0, 0, 1, 2, 2, 0, 1, 2, 1, 0, 0])

    def test_whole_numbers_and_not_truth_values(self):
        told = answers(joined(MIXED))
        self.assertIs(type(told), list)
        self.assertEqual({type(number) for number in told}, {int})

    def test_numbers_of_a_call_are_not_taken_for_calls(self):
        calls = [ATOM, kind(0, 2, 0), kind(2, 0, 0), kind(LARGEST, 2, 2), kind(1, 0, LARGEST), kind(2, 0, 1), WORD]
        self.assertEqual(ask(calls), [0, -22, 1, -22, -22, 2, 0])


class NothingIsKept(unittest.TestCase):
    def test_the_list_handed_in_is_the_same_afterwards(self):
        handed_in = joined(MIXED)
        before = list(handed_in)
        answers(handed_in)
        self.assertEqual(handed_in, before)

    def test_the_list_handed_in_is_not_changed_for_a_while_either(self):
        told = answers(ReadOnlyList(joined(MIXED)))
        self.assertEqual(told, answers(joined(MIXED)))

    def test_a_second_time_answers_as_the_first_time(self):
        handed_in = joined(MIXED)
        first = answers(handed_in)
        copy_of_first = list(first)
        self.assertEqual(answers(handed_in), first)
        self.assertEqual(first, copy_of_first)

    def test_what_is_given_back_is_a_new_list_each_time(self):
        first = answers([2])
        first.append(7)
        self.assertEqual(answers([2]), [1, 0])
        empty = answers([])
        empty.append(7)
        self.assertEqual(answers([]), [])

    def test_an_object_is_new_each_time(self):
        answers(joined([ATOM, ATOM, WORD, kind(1, 0, 1)]))
        self.assertEqual(ask([kind(1, 0, 0), ATOM, WORD]), [-22, 0, 0])
        answers(joined([ATOM, WORD, give(0, 0), many(0, [0])]))
        self.assertEqual(ask([many(0, [0]), ATOM, WORD, many(0, [0]), reading(0, 0, [0])]), [-22, 0, 0, 0, -2])

    def test_what_was_counted_before_is_not_told_of_other_kinds(self):
        one = [ATOM, ATOM, kind(1, 0, 1), WORD, WORD, give(0, 2), give(1, 1), many(0, [0, 1])]
        other = [ATOM, ATOM, kind(2, 0, 1)] + one[3:]
        self.assertEqual([ask(one)[-1], ask(other)[-1], ask(one)[-1]], [1, 0, 1])
        self.assertEqual(ask(one + [START] + other + [START] + one)[7::9], [1, 0, 1])

    def test_a_full_object_leaves_room_in_the_one_behind_it(self):
        answers(joined([ATOM] * 200 + [WORD] * 200))
        self.assertEqual(ask([ATOM] * 200 + [WORD] * 200), list(range(200)) * 2)


class ManyCalls(unittest.TestCase):
    def test_mixed_calls(self):
        self.assertEqual(ask_lists(MIXED), MIXED_ANSWERS)

    def test_400_calls_of_one_sort(self):
        self.assertEqual(ask([START] * 400), [0] * 400)
        self.assertEqual(ask([WORD] * 400), list(range(256)) + [-28] * 144)
        self.assertEqual(ask([ATOM] * 400), list(range(256)) + [-28] * 144)

    def test_400_calls_of_all_sorts(self):
        calls = []
        expected = []
        for i in range(100):
            calls += [ATOM, WORD, kind(3, i, i), kind(1, 0, 0)]
            number = i if i == 0 else i + 1
            expected += [number, i, -22, 1]
        self.assertEqual(len(calls), 400)
        self.assertEqual(ask(calls), expected)

    def test_400_calls_with_starts_among_them(self):
        calls = [START] + MIXED[:8]
        expected = [[0]] + MIXED_ANSWERS[:8]
        for i in range(15):
            calls = calls + [START] + MIXED
            expected = expected + [[0]] + MIXED_ANSWERS
        calls += [START] * (400 - len(calls))
        expected += [[0]] * (400 - len(expected))
        self.assertEqual(len(calls), 400)
        self.assertEqual(ask_lists(calls), expected)

    def test_400_calls_with_the_longest_rows(self):
        calls = [ATOM, WORD, give(0, 0)] + [reading(0, LARGEST, [255] * 20), many(LARGEST, [0] * 20)] * 198
        self.assertLessEqual(len(joined(calls)), 30000)
        self.assertEqual(ask(calls), [0, 0, 0] + [-22] * 396)


if __name__ == "__main__":
    unittest.main()
