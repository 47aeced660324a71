"""Promise 1 for keys: the fewest keys to a word, and behind how many letters."""

import unittest

from tests.lines import answered, best, day, keys, last, out, use, word

HIGHEST = 4294967295
CHAIN = [word(9, 2), word(5, 1, 2), word(3, 1, 2, 3)]


class KeysTest(unittest.TestCase):

    def test_behind_no_letters(self):
        self.assertEqual(last(*CHAIN, keys(1, 2)), [1, 0])
        self.assertEqual(last(*CHAIN, keys(2, 1, 2)), [2, 0])

    def test_behind_some_letters(self):
        # Fourth of all words, but the first of those with 1 in front.
        calls = [word(9, 2), word(8, 3), word(7, 4), word(5, 1, 2, 3)]
        self.assertEqual(last(*calls, keys(9, 1, 2, 3)), [2, 1])
        self.assertEqual(last(*calls, keys(1, 1, 2, 3)), [2, 1])

    def test_a_place_behind_the_first_pressed_behind_some_letters(self):
        calls = [word(9, letter) for letter in range(2, 8)] + [word(8, 1, 1), word(7, 1, 2, 3, 4, 5)]
        # Behind no letters 8 keys, behind the letter 1 two more, behind 1 2 one more.
        self.assertEqual(last(*calls, keys(9, 1, 2, 3, 4, 5)), [3, 1])
        self.assertEqual(last(*calls, keys(1, 1, 2, 3, 4, 5)), [3, 2])

    def test_behind_all_letters(self):
        # Each beginning that is shorter has a heavier word; behind all letters it's the first.
        self.assertEqual(last(*CHAIN, keys(1, 1, 2, 3)), [4, 3])
        self.assertEqual(last(word(9, 1, 2), word(5, 1), keys(1, 1, 2)), [1, 0])

    def test_all_letters_and_one_key_when_not_among_the_best(self):
        # Even behind all its letters the word is the second, of which none is pressed for when k is 1.
        self.assertEqual(last(word(5, 1), word(9, 1, 2), keys(1, 1)), [2, 1])
        calls = [word(0, 1)] + [word(9, 1, letter) for letter in range(1, 6)]
        for k in (0, 1, 5):
            with self.subTest(k=k):
                self.assertEqual(last(*calls, keys(k, 1)), [2, 1])

    def test_all_letters_and_one_key_when_its_place_is_farther(self):
        calls = [word(0, 1)] + [word(9, 1, letter) for letter in range(1, 6)]
        for k in (6, 60, HIGHEST):
            with self.subTest(k=k):
                self.assertEqual(last(*calls, keys(k, 1)), [2, 1])

    def test_k_is_0(self):
        self.assertEqual(answered(*CHAIN, keys(0, 2), keys(0, 1, 2), keys(0, 1, 2, 3))[3:], [[2, 1], [3, 2], [4, 3]])

    def test_k_at_the_word_s_place_and_one_below(self):
        self.assertEqual(answered(*CHAIN, keys(2, 1, 2, 3), keys(3, 1, 2, 3))[3:], [[3, 1], [3, 0]])

    def test_k_large(self):
        for k in (3, 4, 100, HIGHEST):
            with self.subTest(k=k):
                self.assertEqual(last(*CHAIN, keys(k, 1, 2, 3)), [3, 0])

    def test_several_do_and_the_fewest_letters_are_told(self):
        # Behind 0 and behind 1 letter it's two keys.
        self.assertEqual(last(word(9, 2), word(5, 1, 1), keys(2, 1, 1)), [2, 0])
        # Behind 1 and behind 2 letters it's three.
        calls = [word(9, letter) for letter in range(2, 8)] + [word(8, 1, 1), word(7, 1, 2, 3, 4, 5)]
        self.assertEqual(last(*calls, keys(2, 1, 2, 3, 4, 5)), [3, 1])

    def test_of_words_as_heavy_the_earlier_has_the_better_place(self):
        calls = [word(4, 2, 2), word(4, 2, 1), word(4, 2, 1, 1)]
        self.assertEqual(answered(*calls, keys(9, 2, 1), keys(9, 2, 1, 1), keys(9, 2, 2))[3:], [[1, 0], [2, 0], [3, 0]])

    def test_a_word_alone(self):
        ten = [26, 1, 26, 1, 26, 1, 26, 1, 26, 1]
        self.assertEqual(answered(word(0, *ten), keys(1, *ten), keys(0, *ten))[1:], [[1, 0], [11, 10]])

    def test_one_that_is_not_there(self):
        for row in ([], [1], [1, 2, 3, 4], [2, 1], [0], [27], [HIGHEST], [1] * 11, [1] * 13, [1] * 30):
            for k in (0, 1, HIGHEST):
                with self.subTest(row=row, k=k):
                    self.assertEqual(last(*CHAIN, keys(k, *row)), [-3])
        self.assertEqual(answered(keys(1), keys(1, 1)), [[-3], [-3]])

    def test_one_that_has_gone(self):
        self.assertEqual(last(*CHAIN, out(2), keys(1, 2)), [-3])
        self.assertEqual(last(*CHAIN, out(2), keys(1, 1, 2)), [1, 0])

    def test_uses_and_days_count(self):
        told = answered(*CHAIN, use(1, 2, 3), keys(1, 1, 2, 3), *[day()] * 2, keys(1, 1, 2, 3), day(), keys(1, 1, 2, 3))
        self.assertEqual([told[4], told[7], told[9]], [[1, 0], [2, 1], [4, 3]])

    def test_asking_changes_nothing(self):
        told = answered(*CHAIN, keys(1, 2), keys(1, 9), keys(1, 2), best(1), day())[3:]
        self.assertEqual(told, [[1, 0], [-3], [1, 0], [1, 1, 2, 9], [17]])


if __name__ == "__main__":
    unittest.main()
