"""Promise 2 for begin and more: a search that goes on where it ended, of the words as they were when it began."""

import unittest

from tests.lines import answered, begin, best, day, faults, keys, last, looks, more, near, out, sure, use, word

HIGHEST = 4294967295
# Beginnings: the empty row, 1, 1 2, 1 3, 2. In order: 1 2 (10), 1 3 (10), 2 (7).
THREE = [word(10, 1, 2), word(10, 1, 3), word(7, 2)]


def behind_three(*calls):
    return answered(*THREE, *calls)[3:]


class BeginTest(unittest.TestCase):

    def test_answers_how_many_words_begin_so(self):
        told = behind_three(begin(), begin(1), begin(1, 3), begin(2), begin(3), begin(1, 3, 1))
        self.assertEqual(told, [[3], [2], [1], [1], [0], [0]])

    def test_without_words(self):
        self.assertEqual(answered(begin(), begin(1)), [[0], [0]])

    def test_12_letters_typed_and_13(self):
        ten = [5] * 10
        told = answered(word(3, *ten), begin(*ten), begin(*[5] * 11), begin(*[5] * 12), begin(*[5] * 13))
        self.assertEqual(told[1:], [[1], [0], [0], [-1]])
        self.assertEqual(last(begin(*[5] * 30)), [-1])

    def test_letters_typed_that_are_none(self):
        for wrong in (0, 27, HIGHEST):
            for row in ([wrong], [1, wrong], [wrong, 1], [1] * 11 + [wrong], [wrong] * 13):
                with self.subTest(row=row):
                    self.assertEqual(behind_three(begin(*row), more(1)), [[-1], [-2]])

    def test_letters_1_and_26_typed(self):
        self.assertEqual(answered(word(3, 1), word(4, 26), begin(1), begin(26))[2:], [[1], [1]])


class MoreTest(unittest.TestCase):

    def test_before_any_begin(self):
        self.assertEqual(answered(more(0), more(1), more(HIGHEST)), [[-2], [-2], [-2]])
        self.assertEqual(behind_three(best(1), looks(1), more(1))[2], [-2])

    def test_word_by_word(self):
        told = behind_three(begin(), more(1), more(1), more(1), more(1))
        self.assertEqual(told[1:], [[1, 2, 1, 2, 10, 3], [1, 2, 1, 3, 10, 4], [1, 1, 2, 7, 5], [0, 5]])

    def test_several_at_a_time_and_as_many_as_are_left(self):
        told = behind_three(begin(), more(2), more(2), more(2))
        self.assertEqual(told[1:], [[2, 2, 1, 2, 10, 2, 1, 3, 10, 4], [1, 1, 2, 7, 5], [0, 5]])

    def test_n_at_and_above_how_many_there_are(self):
        for n in (3, 4, 100, HIGHEST):
            with self.subTest(n=n):
                told = behind_three(begin(), more(n), more(n))
                self.assertEqual(told[1:], [[3, 2, 1, 2, 10, 2, 1, 3, 10, 1, 2, 7, 5], [0, 5]])

    def test_n_is_0(self):
        told = behind_three(begin(), more(0), more(1), more(0), more(0), more(1))
        self.assertEqual(told[1:], [[0, 0], [1, 2, 1, 2, 10, 3], [0, 3], [0, 3], [1, 2, 1, 3, 10, 4]])

    def test_what_lies_ready_is_opened_only_when_more_is_asked(self):
        # Behind the last word told the long beginning is still closed.
        told = answered(word(9, 1), word(5, 2, 2, 2, 2), begin(), more(1), more(0), more(1), more(1))
        self.assertEqual(told[3:], [[1, 1, 1, 9, 2], [0, 2], [1, 4, 2, 2, 2, 2, 5, 6], [0, 6]])

    def test_as_many_opened_as_looks_tells_however_it_is_cut(self):
        rows = [(4, (1, 1)), (9, (1, 2, 3)), (4, (1,)), (9, (2, 2)), (0, (3, 3, 3)), (4, (2, 2, 1)), (8, (1, 2))]
        calls = [word(v, *row) for v, row in rows]
        wholes = [last(*calls, looks(k))[0] for k in range(9)]
        for first in range(9):
            for second in range(9 - first):
                with self.subTest(first=first, second=second):
                    told = answered(*calls, begin(), more(first), more(second))
                    self.assertEqual([told[-2][-1], told[-1][-1]], [wholes[first], wholes[first + second]])

    def test_from_letters_typed(self):
        self.assertEqual(behind_three(begin(1), more(9)), [[2], [2, 2, 1, 2, 10, 2, 1, 3, 10, 3]])
        self.assertEqual(behind_three(begin(1, 3), more(9)), [[1], [1, 2, 1, 3, 10, 1]])

    def test_letters_with_which_no_word_begins(self):
        for row in ([3], [1, 4], [2, 1], [1] * 12):
            with self.subTest(row=row):
                self.assertEqual(behind_three(begin(*row), more(0), more(1), more(9)), [[0], [0, 0], [0, 0], [0, 0]])

    def test_a_search_without_words_stays_without_words(self):
        told = answered(begin(), word(5, 1), more(9), begin(), more(9))
        self.assertEqual(told, [[0], [1], [0, 0], [1], [1, 1, 1, 5, 2]])


class MeanwhileTest(unittest.TestCase):

    def between(self, *calls):
        """The whole search, with these calls behind its begin and behind its first word."""
        told = behind_three(begin(), *calls, more(1), *calls, more(1), more(9), more(9))
        self.assertEqual(told[1 + len(calls)], [1, 2, 1, 2, 10, 3])
        self.assertEqual(told[-3:], [[1, 2, 1, 3, 10, 4], [1, 1, 2, 7, 5], [0, 5]])

    def test_words_put_out(self):
        self.between(out(1, 3))
        self.between(out(1, 2), out(2), out(1, 3))

    def test_words_put_in(self):
        self.between(word(99, 1), word(0, 1, 3, 5), word(8, 3))

    def test_words_put_in_again_with_another_weight(self):
        self.between(word(99, 2), word(0, 1, 3))

    def test_words_put_out_and_in_again(self):
        self.between(out(2), word(50, 2), out(1, 3), word(7, 1, 3))

    def test_words_used(self):
        self.between(use(2), use(2), use(1, 3))

    def test_days(self):
        self.between(use(2), day(), day())

    def test_days_behind_uses_from_before(self):
        told = answered(*THREE, use(2), use(2), begin(), day(), day(), more(1), day(), more(9), begin(), more(1))
        self.assertEqual(told[8], [1, 1, 2, 39, 2])
        self.assertEqual(told[10], [2, 2, 1, 2, 10, 2, 1, 3, 10, 5])
        self.assertEqual(told[12], [1, 1, 2, 11, 2])

    def test_other_calls_that_ask(self):
        self.between(best(1), best(9, 1), looks(9), looks(2, 1))
        self.between(sure(), sure(1), near(1, 9, 1), faults(1, 1, 2), keys(2, 2))

    def test_other_calls_that_are_refused(self):
        self.between(word(1), out(9), use(9), best(1, 0), looks(1, 27), sure(9), near(4, 1), faults(1), keys(1, 9))

    def test_best_tells_the_words_as_they_are(self):
        told = behind_three(begin(), out(1, 2), word(20, 2), best(1), more(1), best(1))
        self.assertEqual(told[3:], [[1, 1, 2, 20], [1, 2, 1, 2, 10, 3], [1, 1, 2, 20]])

    def test_a_begin_forgets_the_search_before(self):
        told = behind_three(begin(), more(1), begin(1), more(1), more(9))
        self.assertEqual(told[2:], [[2], [1, 2, 1, 2, 10, 2], [1, 2, 1, 3, 10, 3]])

    def test_a_begin_with_the_same_letters_begins_anew(self):
        told = behind_three(begin(), more(2), begin(), more(1))
        self.assertEqual(told[2:], [[3], [1, 2, 1, 2, 10, 3]])

    def test_a_begin_sees_the_words_as_they_are(self):
        told = behind_three(begin(), more(1), out(1, 2), use(2), begin(), more(9))
        self.assertEqual(told[4:], [[2], [2, 1, 2, 23, 2, 1, 3, 10, 4]])

    def test_a_begin_without_words_forgets_too(self):
        self.assertEqual(behind_three(begin(), begin(5), more(9)), [[3], [0], [0, 0]])

    def test_a_begin_that_is_refused_leaves_the_search(self):
        for row in ([0], [27], [1] * 13, [1, HIGHEST]):
            with self.subTest(row=row):
                self.between(begin(*row))


if __name__ == "__main__":
    unittest.main()
