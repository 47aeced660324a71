"""Promise 1 for word, out and use, and what the document says of uses and days."""

import unittest

from tests.lines import answered, best, day, last, out, two_letter_rows, use, word

HIGHEST = 4294967295


class WordTest(unittest.TestCase):

    def test_answers_how_many_words_there_are_then(self):
        self.assertEqual(answered(word(5, 1), word(6, 1, 2), word(7, 2)), [[1], [2], [3]])

    def test_put_in_again_is_there_once_with_the_other_weight(self):
        told = answered(word(5, 3, 1), word(9, 3, 1), best(5), word(0, 3, 1), best(5))
        self.assertEqual(told, [[1], [1], [1, 2, 3, 1, 9], [1], [1, 2, 3, 1, 0]])

    def test_put_in_again_keeps_what_its_uses_weigh(self):
        told = answered(word(5, 3), use(3), use(3), word(100, 3), best(1), use(3))
        self.assertEqual(told, [[1], [21], [37], [1], [1, 1, 3, 132], [148]])

    def test_put_out_and_in_again_has_no_uses(self):
        told = answered(word(5, 3), use(3), out(3), word(5, 3), best(1), use(3))
        self.assertEqual(told, [[1], [21], [0], [1], [1, 1, 3, 5], [21]])

    def test_rows_of_the_same_letters_in_another_order_are_other_words(self):
        self.assertEqual(answered(word(1, 1, 2), word(1, 2, 1), word(1, 1), out(2)), [[1], [2], [3], [-3]])

    def test_one_letter_and_ten(self):
        ten = [26, 1, 26, 1, 26, 1, 26, 1, 26, 1]
        self.assertEqual(answered(word(3, 7), word(4, *ten), best(2)), [[1], [2], [2, 10, *ten, 4, 1, 7, 3]])

    def test_no_letters_and_eleven_are_no_word(self):
        for length in (0, 11, 12, 13, 30):
            with self.subTest(length=length):
                self.assertEqual(answered(word(1, 5), word(1, *[1] * length), best(9)), [[1], [-1], [1, 1, 5, 1]])

    def test_letters_1_and_26(self):
        self.assertEqual(answered(word(0, 1), word(0, 26)), [[1], [2]])

    def test_letters_0_and_27_are_none(self):
        for wrong in (0, 27, HIGHEST):
            for row in ([wrong], [wrong, 1], [1, wrong], [1, 2, 3, 4, 5, 6, 7, 8, 9, wrong]):
                with self.subTest(row=row):
                    self.assertEqual(answered(word(1, *row), best(9)), [[-1], [0]])

    def test_v_up_to_100000(self):
        self.assertEqual(answered(word(0, 1), word(100000, 2), best(9)), [[1], [2], [2, 1, 2, 100000, 1, 1, 0]])

    def test_v_above_100000(self):
        for v in (100001, HIGHEST):
            with self.subTest(v=v):
                self.assertEqual(answered(word(v, 1), best(9)), [[-1], [0]])
                self.assertEqual(answered(word(4, 1), use(1), word(v, 1), best(9))[2:], [[-1], [1, 1, 1, 20]])


class SixtyWordsTest(unittest.TestCase):
    # A list of 40 calls can't put in 60 words, so these lists are longer than those handed in else.

    def setUp(self):
        self.rows = two_letter_rows(60)
        self.full = [word(2, *row) for row in self.rows]

    def test_the_60th_is_taken(self):
        self.assertEqual(answered(*self.full), [[count] for count in range(1, 61)])

    def test_the_61st_is_refused_and_all_is_as_it_was(self):
        told = answered(*self.full, word(2, 26), best(0, 26), day(), use(26), out(26))
        self.assertEqual(told[60:], [[-5], [0], [120], [-3], [-3]])

    def test_one_that_is_there_is_taken_still(self):
        told = answered(*self.full, word(9, *self.rows[59]), best(1), word(1, *self.rows[0]), day())
        self.assertEqual(told[60:], [[60], [1, 2, *self.rows[59], 9], [60], [126]])

    def test_there_is_room_again_when_one_goes(self):
        told = answered(*self.full, out(*self.rows[7]), word(2, 26), word(2, *self.rows[7]))
        self.assertEqual(told[60:], [[59], [60], [-5]])

    def test_the_refusal_told_first(self):
        told = answered(*self.full, word(100001, 26), word(1), word(1, 27), word(100001, *self.rows[0]), day())
        self.assertEqual(told[60:], [[-1], [-1], [-1], [-1], [120]])


class OutTest(unittest.TestCase):

    def test_answers_how_many_words_there_are_then(self):
        told = answered(word(1, 1), word(2, 1, 2), word(3, 2), out(1), out(2), out(1, 2))
        self.assertEqual(told[3:], [[2], [1], [0]])

    def test_the_word_goes_and_no_other(self):
        told = answered(word(1, 1), word(2, 1, 2), word(3, 1, 2, 3), out(1, 2), best(9), day())
        self.assertEqual(told[3:], [[2], [2, 3, 1, 2, 3, 3, 1, 1, 1], [4]])

    def test_one_that_is_not_there(self):
        for row in ([], [1], [1, 2, 3], [2, 1], [0], [27], [HIGHEST], [1] * 11, [1] * 30, [1, 2] + [0] * 28):
            with self.subTest(row=row):
                self.assertEqual(answered(word(4, 1, 2), out(*row), best(9)), [[1], [-3], [1, 2, 1, 2, 4]])

    def test_one_that_has_gone(self):
        self.assertEqual(answered(word(4, 1), out(1), out(1)), [[1], [0], [-3]])

    def test_at_a_new_desk(self):
        self.assertEqual(answered(out(1), word(4, 1)), [[-3], [1]])


class UseTest(unittest.TestCase):

    def test_a_use_weighs_16(self):
        told = answered(word(5, 1), word(0, 2), use(1), use(1), use(2))
        self.assertEqual(told[2:], [[21], [37], [16]])

    def test_only_the_word_used_weighs_more(self):
        told = answered(word(5, 1), word(5, 1, 2), use(1, 2), best(2))
        self.assertEqual(told[2:], [[21], [2, 2, 1, 2, 21, 1, 1, 5]])

    def test_one_that_is_not_there(self):
        for row in ([], [1], [1, 2, 3], [2, 1], [0], [27], [HIGHEST], [1] * 11, [1] * 30):
            with self.subTest(row=row):
                self.assertEqual(answered(word(4, 1, 2), use(*row), best(9)), [[1], [-3], [1, 2, 1, 2, 4]])

    # So many uses need more calls than a list that is handed in else has.
    def test_uses_may_weigh_just_100000(self):
        told = answered(word(7, 1), *[use(1)] * 6251, best(1), day())
        self.assertEqual(told[6249:], [[99991], [100007], [-5], [1, 1, 1, 100007], [50007]])

    def test_uses_that_would_weigh_a_little_more_than_100000(self):
        told = answered(word(0, 1), use(1), day(), *[use(1)] * 6250, best(1))
        self.assertEqual(told[-3:], [[99992], [-5], [1, 1, 1, 99992]])

    def test_what_the_word_weighs_by_itself_does_not_count_for_that(self):
        told = answered(word(100000, 1), *[use(1)] * 6251)
        self.assertEqual(told[-2:], [[200000], [-5]])

    def test_there_is_room_again_behind_a_day(self):
        told = answered(word(0, 1), *[use(1)] * 6251, day(), *[use(1)] * 3126)
        self.assertEqual([told[6251], told[6252], told[-2], told[-1]], [[-5], [50000], [100000], [-5]])


class DayTest(unittest.TestCase):

    def test_without_words(self):
        self.assertEqual(answered(day(), day()), [[0], [0]])

    def test_what_a_word_weighs_by_itself_stays(self):
        self.assertEqual(answered(word(9, 1), word(3, 2), day(), day()), [[1], [2], [12], [12]])

    def test_uses_are_halved_and_rounded_down(self):
        told = answered(word(0, 1), use(1), *[day()] * 6)
        self.assertEqual(told[1:], [[16], [8], [4], [2], [1], [0], [0]])

    def test_uses_of_a_word_are_halved_together(self):
        # 1 + 16 is 17: together halved 8, 4, 2, 1, 0.
        told = answered(word(0, 1), use(1), *[day()] * 4, use(1), *[day()] * 5)
        self.assertEqual(told[5:], [[1], [17], [8], [4], [2], [1], [0]])

    def test_uses_of_several_words_are_rounded_each(self):
        # Both have 1 behind four days, and then 0: not half of 2.
        told = answered(word(10, 1), word(20, 2), use(1), use(2), *[day()] * 5)
        self.assertEqual(told[4:], [[46], [38], [34], [32], [30]])

    def test_an_odd_weight_of_its_own_is_no_part_of_the_halving(self):
        self.assertEqual(last(word(5, 1), use(1), day(), best(1)), [1, 1, 1, 13])

    def test_words_that_went_weigh_nothing(self):
        self.assertEqual(last(word(5, 1), word(6, 2), use(1), out(1), day()), [6])

    def test_a_day_changes_which_is_the_first(self):
        told = answered(word(0, 2), word(10, 1), use(2), best(1), day(), best(1))
        self.assertEqual(told[3:], [[1, 1, 2, 16], [18], [1, 1, 1, 10]])


if __name__ == "__main__":
    unittest.main()
