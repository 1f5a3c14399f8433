"""How calls are told from one another, those with a row among them."""

import unittest

from askright.reader import read_calls


class ReadCalls(unittest.TestCase):
    def test_no_calls(self):
        self.assertEqual(read_calls([]), [])

    def test_each_call_by_itself(self):
        self.assertEqual(read_calls([0]), [(0, [], None)])
        self.assertEqual(read_calls([1, 2, 3, 4]), [(1, [2, 3, 4], None)])
        self.assertEqual(read_calls([2]), [(2, [], None)])
        self.assertEqual(read_calls([3, 7, 8]), [(3, [7, 8], None)])
        self.assertEqual(read_calls([4, 9, 2, 5, 6]), [(4, [9], [5, 6])])
        self.assertEqual(read_calls([5, 9, 1, 3, 5, 6, 7]), [(5, [9, 1], [5, 6, 7])])

    def test_rows_of_none_and_of_20(self):
        row = list(range(20))
        calls = [4, 1, 0, 5, 1, 0, 0, 4, 1, 20] + row + [5, 2, 3, 20] + row + [2]
        expected = [(4, [1], []), (5, [1, 0], []), (4, [1], row), (5, [2, 3], row), (2, [], None)]
        self.assertEqual(read_calls(calls), expected)

    def test_numbers_of_a_row_are_not_taken_for_calls(self):
        calls = [4, 5, 3, 1, 0, 2, 3, 4, 5, 5, 4, 4, 2, 0, 1, 0]
        expected = [(4, [5], [1, 0, 2]), (3, [4, 5], None), (5, [4, 4], [0, 1]), (0, [], None)]
        self.assertEqual(read_calls(calls), expected)


if __name__ == "__main__":
    unittest.main()
