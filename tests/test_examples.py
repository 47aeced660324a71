"""Whole lists of numbers, and what is to be given back."""

import unittest

from typedaheaddesk.desk import answers


class ExamplesTest(unittest.TestCase):

    def test_begin_and_more(self):
        calls = [0, 10, 2, 1, 2, 0, 10, 2, 1, 3, 0, 7, 1, 2, 6, 0, 7, 1, 1, 2, 1, 3, 7, 5, 7, 1]
        self.assertEqual(answers(calls), [
            1, 1, 1, 2, 1, 3, 1, 3, 6, 1, 2, 1, 2, 10, 3, 1, 2, 9, 2, 2, 1, 3, 10, 1, 2, 7, 5, 2, 0, 5,
        ])

    def test_sure(self):
        calls = [0, 5, 3, 1, 2, 3, 0, 5, 4, 1, 2, 3, 4, 0, 9, 3, 1, 2, 5, 8, 0, 8, 1, 1, 8, 3, 1, 2, 3, 8, 1, 2]
        self.assertEqual(answers(calls), [1, 1, 1, 2, 1, 3, 3, 2, 1, 2, 2, 1, 2, 1, 0, 1, -3])

    def test_near(self):
        calls = [
            0, 5, 3, 1, 2, 3, 0, 8, 3, 4, 2, 3, 0, 8, 2, 9, 9, 9, 1, 5, 3, 1, 2, 3, 9, 3, 0, 0, 9, 2, 1, 2, 2, 3,
        ]
        self.assertEqual(answers(calls), [
            1, 1, 1, 2, 1, 3, 14, 2, 2, 3, 1, 2, 3, 5, 0, 3, 4, 2, 3, 8, 1, 2, 3, 0, 8, 3, 1, 3, 4, 2, 3, 8, 1,
        ])

    def test_faults(self):
        calls = [10, 2, 5, 1, 2, 1, 3, 2, 10, 3, 3, 1, 2, 3, 10, 0, 2, 1, 2, 10, 3, 2, 1, 2]
        self.assertEqual(answers(calls), [1, 1, 1, 3, 1, 0, 1, -1])

    def test_keys(self):
        calls = [
            0, 9, 1, 2, 0, 5, 2, 1, 2, 0, 3, 3, 1, 2, 3,
            11, 1, 3, 1, 2, 3, 11, 3, 3, 1, 2, 3, 11, 0, 3, 1, 2, 3, 11, 2, 1, 5,
        ]
        self.assertEqual(answers(calls), [1, 1, 1, 2, 1, 3, 2, 4, 3, 2, 3, 0, 2, 4, 3, 1, -3])


if __name__ == "__main__":
    unittest.main()
