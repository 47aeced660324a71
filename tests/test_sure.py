"""Promise 2 for sure: the letters with which all words that begin so go on."""

import unittest

from tests.lines import answered, last, out, sure, use, word

HIGHEST = 4294967295
SHARING = [word(5, 1, 2, 3), word(5, 1, 2, 3, 4), word(9, 1, 2, 5)]


class SureTest(unittest.TestCase):

    def test_some_letters_more(self):
        self.assertEqual(answered(*SHARING, sure(), sure(1))[3:], [[2, 1, 2], [1, 2]])

    def test_no_letters_more(self):
        self.assertEqual(last(*SHARING, sure(1, 2)), [0])
        self.assertEqual(last(*SHARING, word(1, 2), sure()), [0])

    def test_one_word_alone(self):
        self.assertEqual(last(word(0, 7, 6, 5), sure()), [3, 7, 6, 5])
        self.assertEqual(last(word(0, 7, 6, 5), sure(7)), [2, 6, 5])
        self.assertEqual(last(*SHARING, sure(1, 2, 3, 4)), [0])

    def test_a_word_that_is_what_is_typed(self):
        self.assertEqual(last(*SHARING, sure(1, 2, 3)), [0])
        self.assertEqual(last(*SHARING, sure(1, 2, 5)), [0])

    def test_a_word_that_is_a_beginning_of_the_others(self):
        self.assertEqual(last(word(1, 4, 4, 4), word(1, 4, 4), word(1, 4, 4, 5), sure(4)), [1, 4])
        self.assertEqual(last(word(1, 4, 4, 4, 4), word(1, 4, 4, 4), sure()), [3, 4, 4, 4])

    def test_words_that_differ_and_then_have_the_same_letters(self):
        self.assertEqual(last(word(1, 4, 1, 9), word(1, 4, 2, 9), sure()), [1, 4])

    def test_all_words_count_and_not_the_first_and_last_put_in(self):
        self.assertEqual(last(word(1, 4, 5, 6), word(9, 4, 1), word(1, 4, 5, 7), sure()), [1, 4])
        self.assertEqual(last(word(1, 4, 5, 6), word(0, 4, 9), word(7, 4, 5, 7), sure(4)), [0])

    def test_words_that_begin_otherwise_do_not_count(self):
        self.assertEqual(last(*SHARING, word(9, 2, 1), word(9, 3), sure(1)), [1, 2])

    def test_words_that_went_do_not_count(self):
        told = answered(*SHARING, out(1, 2, 5), sure(), out(1, 2, 3), sure(1), out(1, 2, 3, 4), sure())
        self.assertEqual(told[4::2], [[3, 1, 2, 3], [3, 2, 3, 4], [-3]])

    def test_ten_letters(self):
        ten = [26, 1, 26, 1, 26, 1, 26, 1, 26, 1]
        self.assertEqual(last(word(1, *ten), sure()), [10, *ten])
        self.assertEqual(last(word(1, *ten), sure(*ten)), [0])

    def test_no_word_begins_so(self):
        for row in ([2], [1, 3], [2, 1], [1, 2, 3, 4, 5], [1] * 11, [1] * 12):
            with self.subTest(row=row):
                self.assertEqual(last(*SHARING, sure(*row)), [-3])
        self.assertEqual(answered(sure(), sure(1)), [[-3], [-3]])

    def test_what_can_not_be_typed(self):
        for row in ([0], [27], [HIGHEST], [1, 0], [27, 1], [1] * 13, [1] * 30, [1] * 11 + [0]):
            with self.subTest(row=row):
                self.assertEqual(last(*SHARING, sure(*row)), [-1])
                self.assertEqual(last(sure(*row)), [-1])

    def test_asking_changes_nothing(self):
        told = answered(*SHARING, sure(1), sure(9), sure(0), sure(1), use(1, 2, 5))[3:]
        self.assertEqual(told, [[1, 2], [-3], [-1], [1, 2], [25]])


if __name__ == "__main__":
    unittest.main()
