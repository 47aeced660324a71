"""Promise 2 for looks: how many beginnings the search opens, of how many."""

import unittest

from tests.lines import answered, best, day, last, looks, out, use, word

HIGHEST = 4294967295
# Beginnings: the empty row, 1, 1 2, 1 3, 2.
THREE = [word(10, 1, 2), word(5, 1, 3), word(7, 2)]


class LooksTest(unittest.TestCase):

    def test_opens_until_as_many_are_told_as_are_wanted(self):
        self.assertEqual(last(*THREE, looks(1)), [3, 5])
        self.assertEqual(last(*THREE, looks(2)), [4, 5])
        self.assertEqual(last(*THREE, looks(3)), [5, 5])

    def test_from_letters_typed(self):
        self.assertEqual(last(*THREE, looks(1, 1)), [2, 3])
        self.assertEqual(last(*THREE, looks(2, 1)), [3, 3])
        self.assertEqual(last(*THREE, looks(1, 2)), [1, 1])
        self.assertEqual(last(*THREE, looks(1, 1, 3)), [1, 1])

    def test_k_is_0(self):
        self.assertEqual(last(*THREE, looks(0)), [0, 5])
        self.assertEqual(last(*THREE, looks(0, 1)), [0, 3])

    def test_k_above_how_many_words_there_are(self):
        for k in (4, 100, HIGHEST):
            with self.subTest(k=k):
                self.assertEqual(last(*THREE, looks(k)), [5, 5])
                self.assertEqual(last(*THREE, looks(k, 1)), [3, 3])

    def test_a_beginning_of_no_word(self):
        for row in ([3], [1, 4], [2, 1], [1] * 11, [1] * 12):
            with self.subTest(row=row):
                self.assertEqual(answered(*THREE, looks(0, *row), looks(9, *row))[3:], [[0, 0], [0, 0]])

    def test_without_words_the_empty_row_is_no_beginning(self):
        self.assertEqual(answered(looks(0), looks(1), looks(1, 1)), [[0, 0], [0, 0], [0, 0]])

    def test_a_long_word_alone_is_opened_letter_by_letter(self):
        ten = [9, 8, 7, 6, 5, 4, 3, 2, 1, 26]
        self.assertEqual(last(word(0, *ten), looks(1)), [11, 11])
        self.assertEqual(last(word(0, *ten), looks(1, *ten[:4])), [7, 7])
        self.assertEqual(last(word(0, *ten), looks(1, *ten)), [1, 1])

    def test_a_word_is_told_ahead_of_a_longer_beginning_as_heavy(self):
        self.assertEqual(last(word(5, 1), word(5, 1, 2), looks(1, 1)), [1, 2])
        self.assertEqual(last(word(5, 1), word(6, 1, 2), looks(1, 1)), [2, 2])

    def test_a_later_beginning_as_heavy_is_not_opened(self):
        self.assertEqual(last(word(5, 1), word(5, 2, 9), looks(1)), [2, 4])

    def test_an_earlier_beginning_as_heavy_is_opened(self):
        self.assertEqual(last(word(5, 2), word(5, 1, 9), looks(1)), [3, 4])
        # The word 2 lies ready when 1 is still to be opened, and waits.
        self.assertEqual(last(word(7, 2), word(9, 2, 1), word(7, 1, 5), looks(2)), [5, 5])

    def test_lighter_beginnings_are_left_alone(self):
        light = [word(1, letter, letter, letter) for letter in range(2, 27)]
        self.assertEqual(last(word(2, 1), *light, looks(1)), [2, 77])

    def test_a_beginning_weighs_as_its_heaviest_word(self):
        # 1 is opened ahead of 2 for 1 2 alone, whichever of its words came first.
        for calls in ([word(9, 1, 2), word(1, 1, 3)], [word(1, 1, 3), word(9, 1, 2)]):
            with self.subTest(calls=calls):
                self.assertEqual(last(*calls, word(5, 2), looks(1)), [3, 5])
                self.assertEqual(last(*calls, word(5, 2), looks(2)), [4, 5])

    def test_shared_beginnings_are_counted_once(self):
        self.assertEqual(last(word(1, 4, 4), word(1, 4, 4, 4), word(1, 4), looks(0)), [0, 4])

    def test_uses_days_and_words_that_went_count(self):
        told = answered(*THREE, use(2), looks(1), *[day()] * 3, looks(1), out(1, 2), looks(9))
        self.assertEqual(told[4], [2, 5])
        self.assertEqual(told[8], [3, 5])
        self.assertEqual(told[10], [4, 4])

    def test_12_letters_typed_and_13(self):
        told = answered(word(3, 5), looks(1, *[5] * 12), looks(1, *[5] * 13), looks(0, *[5] * 13), looks(1, *[5] * 30))
        self.assertEqual(told[1:], [[0, 0], [-1], [-1], [-1]])

    def test_letters_typed_that_are_none(self):
        for wrong in (0, 27, HIGHEST):
            for row in ([wrong], [1, wrong], [wrong, 1], [1] * 11 + [wrong], [wrong] * 13):
                with self.subTest(row=row):
                    self.assertEqual(answered(word(1, 1), looks(1, *row), looks(0, *row))[1:], [[-1], [-1]])

    def test_letters_1_and_26_typed(self):
        self.assertEqual(answered(word(3, 1), word(4, 26), looks(9, 1), looks(9, 26))[2:], [[1, 1], [1, 1]])

    def test_asking_changes_nothing(self):
        told = answered(*THREE, looks(2), looks(2), looks(1, 0), looks(2), best(1), day())[3:]
        self.assertEqual(told, [[4, 5], [4, 5], [-1], [4, 5], [1, 2, 1, 2, 10], [22]])


if __name__ == "__main__":
    unittest.main()
