"""Promise 2 for near: the words with few faults, fewer faults first."""

import unittest

from tests.lines import answered, best, day, faults, last, near, out, use, word

HIGHEST = 4294967295
WORDS = [word(5, 1, 2, 3), word(8, 4, 2, 3), word(8, 9, 9), word(2, 1, 2), word(6, 1, 3, 3, 3)]


class NearTest(unittest.TestCase):

    def test_e_is_0(self):
        self.assertEqual(last(*WORDS, near(0, 9, 1, 2)), [2, 2, 3, 1, 2, 3, 5, 0, 2, 1, 2, 2, 0])
        self.assertEqual(last(*WORDS, near(0, 9, 1, 2, 3)), [1, 1, 3, 1, 2, 3, 5, 0])
        self.assertEqual(last(*WORDS, near(0, 9, 3)), [0, 0])

    def test_e_is_1(self):
        told = [4, 4, 3, 1, 2, 3, 5, 0, 3, 4, 2, 3, 8, 1, 4, 1, 3, 3, 3, 6, 1, 2, 1, 2, 2, 1]
        self.assertEqual(last(*WORDS, near(1, 9, 1, 2, 3)), told)

    def test_e_is_2(self):
        self.assertEqual(last(*WORDS, near(2, 9, 9, 3)), [
            5, 5, 2, 9, 9, 8, 1, 4, 1, 3, 3, 3, 6, 1, 3, 4, 2, 3, 8, 2, 3, 1, 2, 3, 5, 2, 2, 1, 2, 2, 2,
        ])

    def test_e_is_3(self):
        self.assertEqual(last(*WORDS, near(3, 1, 5, 5, 5)), [5, 1, 3, 4, 2, 3, 8, 3])
        self.assertEqual(last(*WORDS, near(2, 1, 5, 5, 5)), [0, 0])
        self.assertEqual(last(*WORDS, near(3, 9, 5, 5, 5, 5)), [0, 0])

    def test_e_above_3(self):
        for e in (4, 5, HIGHEST):
            with self.subTest(e=e):
                self.assertEqual(answered(*WORDS, near(e, 9, 1), near(e, 0), near(e, 1, 0))[5:], [[-1], [-1], [-1]])

    def test_k_is_0(self):
        self.assertEqual(last(*WORDS, near(1, 0, 1, 2, 3)), [4, 0])
        self.assertEqual(last(*WORDS, near(3, 0)), [5, 0])

    def test_k_below_how_many_there_are(self):
        self.assertEqual(last(*WORDS, near(1, 2, 1, 2, 3)), [4, 2, 3, 1, 2, 3, 5, 0, 3, 4, 2, 3, 8, 1])

    def test_k_at_and_above_how_many_there_are(self):
        whole = last(*WORDS, near(1, 4, 1, 2, 3))
        self.assertEqual(whole[:2], [4, 4])
        for k in (5, 100, HIGHEST):
            with self.subTest(k=k):
                self.assertEqual(last(*WORDS, near(1, k, 1, 2, 3)), whole)

    def test_fewer_faults_count_for_more_than_weight(self):
        self.assertEqual(last(word(0, 1), word(100000, 2), near(1, 9, 1)), [2, 2, 1, 1, 0, 0, 1, 2, 100000, 1])

    def test_of_as_many_faults_the_heavier_then_the_earlier(self):
        told = last(word(4, 3), word(4, 2, 9), word(5, 26), word(4, 2), word(4, 10), near(1, 9, 1))
        self.assertEqual(told, [5, 5, 1, 26, 5, 1, 1, 2, 4, 1, 2, 2, 9, 4, 1, 1, 3, 4, 1, 1, 10, 4, 1])

    def test_words_shorter_than_what_is_typed(self):
        told = last(word(1, 7), word(1, 7, 6), word(1, 7, 6, 5), near(3, 9, 7, 6, 5, 4))
        self.assertEqual(told, [3, 3, 3, 7, 6, 5, 1, 1, 2, 7, 6, 1, 2, 1, 7, 1, 3])

    def test_words_longer_than_what_is_typed(self):
        ten = [3, 4, 5, 6, 7, 8, 9, 10, 11, 12]
        self.assertEqual(last(word(1, *ten), near(1, 9, 3, 5, 6)), [1, 1, 10, *ten, 1, 1])

    def test_an_empty_row_typed(self):
        self.assertEqual(last(*WORDS, near(0, 2)), [5, 2, 3, 4, 2, 3, 8, 0, 2, 9, 9, 8, 0])
        self.assertEqual(last(*WORDS, near(3, 9))[:2], [5, 5])

    def test_without_words(self):
        self.assertEqual(answered(near(0, 1), near(3, 9, 1)), [[0, 0], [0, 0]])

    def test_uses_days_and_words_that_went_count(self):
        asked = near(1, 9, 1)
        told = answered(word(5, 2), word(7, 3), use(2), asked, *[day()] * 3, near(1, 1, 1), out(3), asked)
        self.assertEqual(told[3], [2, 2, 1, 2, 21, 1, 1, 3, 7, 1])
        self.assertEqual(told[7], [2, 1, 1, 2, 7, 1])
        self.assertEqual(told[9], [1, 1, 1, 2, 7, 1])

    def test_faults_as_the_call_faults_tells_them(self):
        typed = [1, 3, 2, 2]
        for row in ([1, 2, 2], [3, 2, 2], [2, 2], [1, 3, 2, 2, 1], [1, 1, 1, 1]):
            with self.subTest(row=row):
                told = answered(word(1, *row), near(3, 1, *typed), faults(4, *typed, *row))
                self.assertEqual(told[1][-1:], told[2])

    def test_12_letters_typed_and_13(self):
        ten = [5] * 10
        told = answered(word(3, *ten), near(3, 1, *[5] * 12), near(1, 1, *[5] * 12), near(3, 1, *[5] * 13))
        self.assertEqual(told[1:], [[1, 1, 10, *ten, 3, 2], [0, 0], [-1]])
        self.assertEqual(last(near(0, 0, *[5] * 30)), [-1])

    def test_letters_typed_that_are_none(self):
        for wrong in (0, 27, HIGHEST):
            for row in ([wrong], [1, wrong], [wrong, 1], [1] * 11 + [wrong], [wrong] * 13):
                with self.subTest(row=row):
                    self.assertEqual(answered(word(1, 1), near(3, 1, *row), near(0, 0, *row))[1:], [[-1], [-1]])

    def test_asking_changes_nothing(self):
        told = answered(*WORDS, near(0, 1, 1), near(4, 1), near(0, 1, 1), best(1), day())[5:]
        first = [3, 1, 4, 1, 3, 3, 3, 6, 0]
        self.assertEqual(told, [first, [-1], first, [1, 3, 4, 2, 3, 8], [29]])


if __name__ == "__main__":
    unittest.main()
