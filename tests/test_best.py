"""Promise 2 for best: the best k words that begin so, the first first."""

import unittest

from tests.lines import answered, best, day, last, use, word

HIGHEST = 4294967295
SHARING = [word(10, 1, 2), word(5, 1, 3), word(7, 2), word(6, 1, 2, 3), word(8, 1)]


class BestTest(unittest.TestCase):

    def test_heaviest_first(self):
        self.assertEqual(last(*SHARING, best(3)), [3, 2, 1, 2, 10, 1, 1, 8, 1, 2, 7])

    def test_only_words_that_begin_so(self):
        self.assertEqual(last(*SHARING, best(9, 1)), [4, 2, 1, 2, 10, 1, 1, 8, 3, 1, 2, 3, 6, 2, 1, 3, 5])
        self.assertEqual(last(*SHARING, best(9, 1, 2)), [2, 2, 1, 2, 10, 3, 1, 2, 3, 6])
        self.assertEqual(last(*SHARING, best(9, 2)), [1, 1, 2, 7])

    def test_a_whole_word_is_a_beginning_of_itself(self):
        self.assertEqual(last(*SHARING, best(9, 1, 2, 3)), [1, 3, 1, 2, 3, 6])

    def test_a_beginning_of_no_word(self):
        for row in ([3], [1, 4], [2, 1], [1, 2, 3, 1], [1] * 11, [1] * 12):
            with self.subTest(row=row):
                self.assertEqual(last(*SHARING, best(9, *row)), [0])

    def test_no_words(self):
        self.assertEqual(answered(best(1), best(0), best(1, 1)), [[0], [0], [0]])

    def test_k_is_0(self):
        self.assertEqual(answered(*SHARING, best(0), best(0, 1))[5:], [[0], [0]])

    def test_k_at_and_above_how_many_there_are(self):
        whole = [4, 2, 1, 2, 10, 1, 1, 8, 3, 1, 2, 3, 6, 2, 1, 3, 5]
        for k in (4, 5, 100, HIGHEST):
            with self.subTest(k=k):
                self.assertEqual(last(*SHARING, best(k, 1)), whole)
        self.assertEqual(last(*SHARING, best(3, 1)), [3, *whole[1:13]])

    def test_of_words_as_heavy_the_earlier_is_the_first(self):
        told = last(word(4, 3), word(4, 2, 26), word(4, 2, 1), word(4, 26), word(4, 10), best(9))
        self.assertEqual(told, [5, 2, 2, 1, 4, 2, 2, 26, 4, 1, 3, 4, 1, 10, 4, 1, 26, 4])

    def test_of_words_as_heavy_a_beginning_of_the_other_is_the_first(self):
        told = last(word(4, 1, 1, 1), word(4, 1), word(4, 1, 1), best(2))
        self.assertEqual(told, [2, 1, 1, 4, 2, 1, 1, 4])

    def test_a_lower_letter_counts_for_more_than_a_shorter_row(self):
        self.assertEqual(last(word(4, 2), word(4, 1, 26, 26), best(1)), [1, 3, 1, 26, 26, 4])

    def test_a_heavier_word_comes_ahead_of_its_own_beginning(self):
        self.assertEqual(last(word(4, 1), word(5, 1, 2), best(2)), [2, 2, 1, 2, 5, 1, 1, 4])

    def test_an_earlier_word_as_heavy_is_found_below_a_beginning(self):
        told = last(word(7, 2), word(9, 2, 1), word(7, 1, 5), best(2))
        self.assertEqual(told, [2, 2, 2, 1, 9, 2, 1, 5, 7])

    def test_words_that_weigh_nothing_are_told(self):
        self.assertEqual(last(word(0, 2), word(0, 1), best(9)), [2, 1, 1, 0, 1, 2, 0])

    def test_uses_and_days_count(self):
        told = answered(word(20, 1), word(10, 2), use(2), best(2), day(), best(2))
        self.assertEqual(told[3], [2, 1, 2, 26, 1, 1, 20])
        self.assertEqual(told[5], [2, 1, 1, 20, 1, 2, 18])

    def test_12_letters_typed_and_13(self):
        ten = [5] * 10
        told = answered(word(3, *ten), best(1, *ten), best(1, *[5] * 11), best(1, *[5] * 12), best(1, *[5] * 13))
        self.assertEqual(told[1:], [[1, 10, *ten, 3], [0], [0], [-1]])
        self.assertEqual(last(best(0, *[5] * 30)), [-1])

    def test_letters_typed_that_are_none(self):
        for wrong in (0, 27, HIGHEST):
            for row in ([wrong], [1, wrong], [wrong, 1], [1] * 11 + [wrong], [wrong] * 13):
                with self.subTest(row=row):
                    self.assertEqual(answered(word(1, 1), best(1, *row), best(0, *row))[1:], [[-1], [-1]])

    def test_letters_1_and_26_typed(self):
        self.assertEqual(answered(word(3, 1), word(4, 26), best(9, 1), best(9, 26))[2:], [[1, 1, 1, 3], [1, 1, 26, 4]])

    def test_asking_changes_nothing(self):
        told = answered(*SHARING, best(2), best(2), best(1, 27), best(2), day())[5:]
        self.assertEqual(told, [[2, 2, 1, 2, 10, 1, 1, 8]] * 2 + [[-1], [2, 2, 1, 2, 10, 1, 1, 8], [36]])


if __name__ == "__main__":
    unittest.main()
