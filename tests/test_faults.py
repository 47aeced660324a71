"""Promise 3 for faults, and what the document calls a fault."""

import itertools
import unittest

from tests.lines import answered, faults, last, word

HIGHEST = 4294967295


def between(typed, row):
    return last(faults(len(typed), *typed, *row))


def one_fault_away(row, letters):
    """All rows that one fault makes of this one."""
    made = set()
    for place in range(len(row) + 1):
        made.update(row[:place] + (letter,) + row[place:] for letter in letters)
    for place in range(len(row)):
        made.add(row[:place] + row[place + 1:])
        made.update(row[:place] + (letter,) + row[place + 1:] for letter in letters)
    return made


def faults_step_by_step(typed, row, letters):
    """Makes faults one by one until a beginning of the word comes out."""
    beginnings = {row[:size] for size in range(len(row) + 1)}
    reached = {typed}
    steps = 0
    while not reached & beginnings:
        reached = set().union(*[one_fault_away(each, letters) for each in reached])
        steps += 1
    return steps


class FaultsTest(unittest.TestCase):

    def test_none(self):
        self.assertEqual(between((1, 2, 3), (1, 2, 3)), [0])
        self.assertEqual(between((1, 2), (1, 2, 3)), [0])
        self.assertEqual(between((), (1, 2, 3)), [0])
        self.assertEqual(between((), ()), [0])

    def test_a_letter_put_in(self):
        self.assertEqual(between((2, 3), (1, 2, 3)), [1])
        self.assertEqual(between((1, 3), (1, 2, 3, 4)), [1])
        self.assertEqual(between((1, 2, 4, 5), (1, 2, 3, 4, 5)), [1])

    def test_a_letter_left_out(self):
        self.assertEqual(between((9, 1, 2), (1, 2)), [1])
        self.assertEqual(between((1, 9, 2), (1, 2)), [1])
        self.assertEqual(between((1, 2, 9), (1, 2)), [1])

    def test_another_letter_in_its_place(self):
        self.assertEqual(between((9, 2, 3), (1, 2, 3)), [1])
        self.assertEqual(between((1, 9, 3), (1, 2, 3)), [1])
        self.assertEqual(between((1, 2, 9), (1, 2, 3, 4)), [1])

    def test_two_letters_changed_about_are_two_faults(self):
        self.assertEqual(between((2, 1, 3, 4), (1, 2, 3, 4)), [2])

    def test_several_together(self):
        # 9 left out in front, 8 in the place of 3, 6 put in behind 5.
        self.assertEqual(between((9, 1, 2, 8, 4, 5, 7), (1, 2, 3, 4, 5, 6, 7)), [3])
        self.assertEqual(between((3, 4, 5, 6, 1), (1, 2, 3, 4, 5, 6)), [3])

    def test_to_a_beginning(self):
        # 1 2 is made of 1 3 2 by one fault; of the whole word more is amiss.
        self.assertEqual(between((1, 3, 2), (1, 2, 9, 9, 9, 9)), [1])
        self.assertEqual(between((5,), (1, 2, 3)), [1])

    def test_to_the_whole_word(self):
        self.assertEqual(between((1, 2, 3, 4, 5), (1, 2, 3)), [2])

    def test_to_the_empty_beginning(self):
        self.assertEqual(between((1, 2, 3), ()), [3])
        self.assertEqual(between((4, 5), (6, 7)), [2])
        self.assertEqual(between((4, 5, 6), (7,)), [3])

    def test_typed_is_ahead_of_the_word(self):
        # The other way about there would be faults in the first, and none in the second.
        self.assertEqual(last(faults(1, 1, 1, 2, 3)), [0])
        self.assertEqual(last(faults(3, 1, 2, 3, 1)), [2])

    def test_n_cuts_the_row(self):
        row = [1, 2, 1, 3, 2]
        told = answered(*[faults(n, *row) for n in range(6)])
        self.assertEqual(told, [[0], [1], [1], [2], [3], [5]])

    def test_n_0_and_n_all(self):
        self.assertEqual(answered(faults(0), faults(0, 1, 2), faults(2, 1, 2)), [[0], [0], [2]])

    def test_n_above_how_many_letters_there_are(self):
        for n in (3, 4, 13, HIGHEST):
            with self.subTest(n=n):
                self.assertEqual(last(faults(n, 1, 2)), [-1])
        self.assertEqual(last(faults(1)), [-1])

    def test_12_letters_and_13_in_either_part(self):
        self.assertEqual(between([1] * 12, [1] * 12), [0])
        self.assertEqual(between([1] * 12, [2] * 12), [12])
        self.assertEqual(between([1] * 12, []), [12])
        self.assertEqual(between([], [1] * 12), [0])
        for sizes in ((13, 0), (0, 13), (13, 1), (1, 13), (12, 13), (13, 12), (13, 13), (30, 0), (0, 30), (15, 15)):
            with self.subTest(sizes=sizes):
                self.assertEqual(between([1] * sizes[0], [1] * sizes[1]), [-1])

    def test_letters_that_are_none_in_either_part(self):
        for wrong in (0, 27, HIGHEST):
            for typed, row in (([wrong], [1]), ([1], [wrong]), ([1, wrong], [1]), ([1], [1, wrong]), ([wrong], []),
                               ([], [wrong]), ([wrong], [wrong]), ([wrong, 1, 2], [1, 2]), ([1, 2], [wrong, 1, 2])):
                with self.subTest(typed=typed, row=row):
                    self.assertEqual(between(typed, row), [-1])

    def test_letters_1_and_26(self):
        self.assertEqual(between((1, 26), (1, 26, 1)), [0])

    def test_words_at_the_desk_do_not_count(self):
        told = answered(faults(1, 1, 2), word(1, 1), faults(1, 1, 2), word(1, 2), faults(1, 1, 2))
        self.assertEqual(told[::2], [[1], [1], [1]])

    def test_as_faults_made_one_by_one(self):
        letters = (1, 2)
        rows = [row for size in range(5) for row in itertools.product(letters, repeat=size)]
        for typed in rows:
            for row in rows:
                expected = faults_step_by_step(typed, row, letters)
                self.assertEqual(between(typed, row), [expected], (typed, row))


if __name__ == "__main__":
    unittest.main()
