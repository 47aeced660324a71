"""The interface: one list in, one list out, nothing changed and nothing kept."""

import unittest

from tests.lines import begin, best, day, faults, keys, line, looks, more, near, out, sure, use, word
from typedaheaddesk.desk import Desk, answers
from typedaheaddesk.search import Search

EVERY_CALL = line(
    word(10, 1, 2), word(100001, 1), word(7, 2), use(1, 2), use(3), day(), best(2), best(1, 27),
    looks(1), looks(1, *[1] * 13), out(2), out(2), best(5, 1),
    more(1), begin(), begin(0), more(2), sure(), sure(2), near(1, 1, 2), near(4, 1), faults(1, 2, 1, 2), faults(1),
    keys(0, 1, 2), keys(1, 2),
)


class AnswersTest(unittest.TestCase):

    def test_each_call_s_count_then_its_numbers(self):
        self.assertEqual(answers(EVERY_CALL), [
            1, 1, 1, -1, 1, 2, 1, 26, 1, -3, 1, 25, 8, 2, 2, 1, 2, 18, 1, 2, 7, 1, -1,
            2, 3, 4, 1, -1, 1, 1, 1, -3, 5, 1, 2, 1, 2, 18,
            1, -2, 1, 1, 1, -1, 6, 1, 2, 1, 2, 18, 3, 3, 2, 1, 2, 1, -3, 7, 1, 1, 2, 1, 2, 18, 1, 1, -1, 1, 1, 1, -1,
            2, 3, 2, 1, -3,
        ])

    def test_calls_as_the_interface_spells_them(self):
        calls = [0, 5, 1, 3, 2, 1, 3, 4, 1, 0, 5, 1, 0, 3, 1, 1, 3, 3]
        self.assertEqual(answers(calls), [1, 1, 1, 21, 4, 1, 1, 3, 21, 2, 2, 2, 1, 13, 1, 0, 1, 0])

    def test_calls_behind_the_first_six_as_the_interface_spells_them(self):
        calls = [0, 5, 2, 3, 4, 6, 1, 3, 7, 1, 8, 0, 9, 1, 2, 1, 9, 10, 1, 3, 4, 3, 4, 11, 1, 2, 3, 4, 3]
        self.assertEqual(answers(calls), [
            1, 1, 1, 1, 6, 1, 2, 3, 4, 5, 2, 3, 2, 3, 4, 7, 1, 1, 2, 3, 4, 5, 1, 1, 1, 2, 1, 0, 1, 5,
        ])

    def test_one_call_alone(self):
        self.assertEqual(answers([3]), [1, 0])
        self.assertEqual(answers([1, 0]), [1, -3])
        self.assertEqual(answers([0, 0, 0]), [1, -1])
        self.assertEqual(answers([6, 0]), [1, 0])
        self.assertEqual(answers([7, 0]), [1, -2])
        self.assertEqual(answers([8, 0]), [1, -3])
        self.assertEqual(answers([9, 0, 0, 0]), [2, 0, 0])
        self.assertEqual(answers([10, 0, 0]), [1, 0])
        self.assertEqual(answers([11, 0, 0]), [1, -3])

    def test_forty_calls_with_thirty_letters_each(self):
        self.assertEqual(answers(line(*[word(1, *[1] * 30)] * 40)), [1, -1] * 40)

    def test_what_is_handed_in_is_the_same_afterwards(self):
        calls = list(EVERY_CALL)
        given = answers(calls)
        self.assertEqual(calls, EVERY_CALL)
        self.assertIsNot(given, calls)

    def test_nothing_is_kept_from_one_time_to_the_next(self):
        first = answers(EVERY_CALL)
        self.assertEqual(answers(line(best(9), day(), more(1))), [1, 0, 1, 0, 1, -2])
        self.assertEqual(answers(EVERY_CALL), first)

    def test_what_is_given_back_may_be_changed(self):
        first = answers(EVERY_CALL)
        kept = list(first)
        first.clear()
        self.assertEqual(answers(EVERY_CALL), kept)

    def test_whole_numbers_in_a_list(self):
        given = answers(EVERY_CALL)
        self.assertIs(type(given), list)
        self.assertEqual({type(number) for number in given}, {int})


class SearchTest(unittest.TestCase):

    def test_goes_on_where_it_ended_with_the_words_as_they_were(self):
        desk = Desk()
        desk.word(10, (1, 2))
        desk.word(5, (1, 3))
        desk.word(7, (2,))
        search = Search(desk.weights_now(), ())
        self.assertEqual((search.tell(1), search.opened), ([((1, 2), 10)], 3))
        desk.out((2,))
        desk.word(99, (1, 3))
        self.assertEqual((search.tell(0), search.opened), ([], 3))
        self.assertEqual((search.tell(9), search.opened), ([((2,), 7), ((1, 3), 5)], 5))
        self.assertEqual((search.tell(9), search.opened), ([], 5))


if __name__ == "__main__":
    unittest.main()
