"""Point 2: rule."""

import unittest

from tests.lines import get, get_all, put, row_rule, rule, run, step, told


class RuleAdded(unittest.TestCase):
    def test_first_half_is_taken_second_half_given(self):
        answered = told(put(0, 9), put(1, 9), row_rule([2, 1, 0, 5]), step(), get(0), get(1))
        self.assertEqual(answered[2:], [[1], [0], [7], [13]])

    def test_answers_how_many_there_are(self):
        self.assertEqual(told(*[rule([1], [])] * 64), [[count] for count in range(1, 65)])

    def test_added_last(self):
        answered = told(rule([1], []), rule([], [0, 1]), put(0, 1), step(), step(), step(), get(0), get(1))
        self.assertEqual(answered[3:], [[0], [1], [1], [0], [2]])

    def test_no_numbers_take_and_give_nothing(self):
        answered = told(put(7, 5), row_rule([]), step(), *get_all())
        self.assertEqual(answered, [[0], [1], [0]] + [[0]] * 7 + [[5]] + [[0]] * 32)

    def test_two_numbers(self):
        self.assertEqual(told(row_rule([0, 255]), step(), get(0), get(1)), [[1], [0], [255], [0]])

    def test_eighty_numbers_tell_all_counters(self):
        taken = [i + 1 for i in range(40)]
        given = [255 - i for i in range(40)]
        puts = [put(i, 100) for i in range(40)]
        answered = told(*puts, row_rule(taken + given), step(), *get_all())
        self.assertEqual(answered[40:], [[1], [0]] + [[100 - (i + 1) + (255 - i)] for i in range(40)])

    def test_eighty_numbers_take_of_the_last_counter(self):
        row = [0] * 39 + [1] + [0] * 40
        answered = told(row_rule(row), step(), put(39, 1), step(), step(), get(39))
        self.assertEqual(answered, [[1], [-2], [0], [0], [-2], [0]])

    def test_counters_that_are_not_told_stay(self):
        puts = [put(i, 50) for i in range(40)]
        answered = told(*puts, row_rule([1, 2, 3, 4]), step(), *get_all())
        self.assertEqual(answered[40:], [[1], [0], [52], [52]] + [[50]] * 38)

    def test_rules_and_counters_that_are_there_stay(self):
        answered = told(put(0, 3), rule([1], []), rule([2], []), get(0), step(), get(0))
        self.assertEqual(answered, [[0], [1], [2], [3], [0], [2]])


class RuleRefused(unittest.TestCase):
    def test_odd(self):
        for length in (1, 3, 41, 79):
            self.assertEqual(told(row_rule([1] * length)), [[-1]])

    def test_odd_adds_nothing(self):
        answered = told(row_rule([0, 1, 1]), step(), run(2), get(0), get(1), rule([], [1]), step())
        self.assertEqual(answered, [[-1], [-2], [1, 0], [0], [0], [1], [0]])

    def test_what_stands_behind_an_odd_one_is_read_right(self):
        self.assertEqual(told(row_rule([2, 3, 4]), put(3, 8), get(3)), [[-1], [0], [8]])

    def test_the_sixty_fifth(self):
        full = [rule([1], [0, 1])] * 64
        answered = told(*full, rule([], [0, 0, 1]), rule([], []), step(), run(1), get(2))
        self.assertEqual(answered[63:], [[64], [-2], [-2], [-2], [1, 0], [0]])

    def test_the_sixty_fourth_counts(self):
        others = [rule([1], [])] * 63
        answered = told(*others, rule([], [0, 0, 1]), rule([], [1]), step(), get(2))
        self.assertEqual(answered[63:], [[64], [-2], [63], [1]])

    def test_odd_goes_before_full(self):
        full = [rule([1], [])] * 64
        self.assertEqual(told(*full, row_rule([1, 2, 3]), row_rule([1, 2]))[64:], [[-1], [-2]])


if __name__ == "__main__":
    unittest.main()
