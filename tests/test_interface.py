"""How calls and answers are laid into one list each, and what `answers` leaves alone."""

import unittest

from fortycounters.machine import answers


class Layout(unittest.TestCase):
    def test_no_calls(self):
        self.assertEqual(answers([]), [])

    def test_every_call_as_it_stands_in_the_lists(self):
        calls = [
            0,
            1, 4, 1, 0, 0, 2,
            2, 0, 3,
            4,
            5, 5,
            3, 1,
            1, 0,
            1, 1, 9,
            4,
            3, 40,
            5, -1,
            0,
            3, 1,
        ]
        expected = [
            1, 0,
            1, 1,
            1, 0,
            1, 0,
            2, 1, 2,
            1, 6,
            1, 2,
            1, -1,
            1, 1,
            1, -1,
            1, -1,
            1, 0,
            1, 0,
        ]
        self.assertEqual(answers(calls), expected)

    def test_the_later_calls_as_they_stand_in_the_lists(self):
        calls = [
            0,
            1, 4, 1, 0, 0, 2,
            2, 0, 3,
            6, 1, 2,
            6, 1, 9,
            6, 40, 9,
            7,
            8, 0,
            8, 1,
            9, 8, 2, 1, 0, 1, 0, 9, 9, 9,
            9, 3, 1, 0, 0,
            9, 4, 1, 8, 0, 0,
            11, 4,
            11, 9,
            11, -1,
            10,
            7,
            9, 0,
            10,
        ]
        expected = [
            1, 0,
            1, 1,
            1, 0,
            2, 0, 2,
            2, 3, 1,
            1, -1,
            2, 0, 729,
            3, 0, 9, 2,
            1, -1,
            1, 2,
            1, -1,
            1, -2,
            2, 0, 4,
            2, 1, 3,
            1, -1,
            1, 4,
            2, 0, 29,
            1, 0,
            1, 0,
        ]
        self.assertEqual(answers(calls), expected)

    def test_bytes_of_a_code_are_not_taken_for_calls(self):
        calls = [0, 9, 8, 0, 7, 10, 11, 0, 3, 4, 5, 11, 2, 7]
        self.assertEqual(answers(calls), [1, 0, 1, 2, 2, 1, 0, 2, 0, 1])

    def test_amounts_of_a_row_are_not_taken_for_calls(self):
        self.assertEqual(answers([0, 1, 6, 0, 0, 0, 3, 2, 5, 4, 3, 2]), [1, 0, 1, 1, 1, 0, 1, 5])

    def test_four_hundred_calls(self):
        calls = [0, 1, 2, 0, 1] + [5, 5000] * 397 + [3, 0]
        self.assertEqual(answers(calls), [1, 0, 1, 1] + [2, 0, 5000] * 397 + [1, 5000 * 397])

    def test_answers_are_whole_numbers_in_a_list(self):
        first = [0, 1, 2, 1, 0, 2, 0, 1, 3, 0, 4, 4, 5, 1, 5, -1]
        told = answers(first + [6, 0, 1, 7, 8, 0, 9, 4, 1, 0, 0, 0, 11, 2, 10, 9, 1, 1])
        self.assertIs(type(told), list)
        self.assertEqual([type(number) for number in told], [int] * len(told))


class LeftAlone(unittest.TestCase):
    def test_what_is_handed_in_stays(self):
        calls = [0, 1, 4, 1, 0, 0, 2, 2, 0, 3, 4, 5, 5, 3, 1, 0, 1, 1, 7]
        calls = calls + [9, 8, 1, 2, 1, 0, 0, 0, 0, 0, 11, 3, 10, 6, 2, 9, 8, 0, 7]
        before = list(calls)
        answers(calls)
        self.assertEqual(calls, before)

    def test_no_code_is_left_behind(self):
        calls = [0, 9, 8, 1, 2, 1, 0, 1, 3, 1, 0, 11, 3, 10]
        first = answers(calls)
        self.assertEqual(first, [1, 0, 1, 2, 2, 0, 3, 1, 4])
        self.assertEqual(answers([0, 11, 3, 8, 0, 10, 7]), [1, 0, 2, 1, 0, 1, -1, 1, 0, 2, 0, 23])
        self.assertEqual(answers(calls), first)

    def test_nothing_is_left_behind(self):
        calls = [0, 1, 2, 0, 1, 5, 7, 3, 0]
        first = answers(calls)
        self.assertEqual(first, [1, 0, 1, 1, 2, 0, 7, 1, 7])
        self.assertEqual(answers(calls), first)
        self.assertEqual(answers([0, 4, 3, 0]), [1, 0, 1, -2, 1, 0])

    def test_what_was_given_back_may_be_changed(self):
        first = answers([0, 3, 0])
        first.append(5)
        self.assertEqual(answers([0, 3, 0]), [1, 0, 1, 0])


if __name__ == "__main__":
    unittest.main()
