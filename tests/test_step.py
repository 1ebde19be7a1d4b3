"""Point 5: step."""

import unittest

from tests.lines import HIGHEST, get, get_all, put, row_rule, rule, step, told


class Step(unittest.TestCase):
    def test_the_first_that_fits_in_their_order(self):
        rules = [rule([3], [0, 1]), rule([2], [0, 0, 1]), rule([1], [0, 0, 0, 1])]
        answered = told(*rules, put(0, 6), step(), step(), put(0, 2), step(), put(0, 1), step(), *get_all())
        self.assertEqual(answered[4:11], [[0], [0], [0], [1], [0], [2], [0]])
        self.assertEqual(answered[11:], [[2], [1], [1]] + [[0]] * 36)

    def test_one_step_at_a_time(self):
        self.assertEqual(told(rule([1], [0, 1]), put(0, 5), step(), get(0), get(1))[2:], [[0], [4], [1]])

    def test_fits_where_each_counter_has_just_enough(self):
        taken = [2, 0, 3]
        self.assertEqual(told(rule(taken, []), put(0, 2), put(2, 3), step(), get(0), get(2))[3:], [[0], [0], [0]])

    def test_one_short_does_not_fit(self):
        for short in ((1, 3), (2, 2)):
            puts = [put(0, short[0]), put(2, short[1])]
            answered = told(rule([2, 0, 3], [0, 1]), *puts, step(), get(0), get(1), get(2))
            self.assertEqual(answered[3:], [[-2], [short[0]], [0], [short[1]]])

    def test_the_last_of_sixty_four(self):
        answered = told(*[rule([1], [])] * 63, rule([0, 1], []), put(1, 1), step(), get(1))
        self.assertEqual(answered[65:], [[63], [0]])

    def test_what_is_given_does_not_help_it_fit(self):
        self.assertEqual(told(rule([1], [1]), step(), get(0)), [[1], [-2], [0]])

    def test_the_same_amount_taken_and_given(self):
        self.assertEqual(told(rule([4], [4]), put(0, 4), step(), get(0)), [[1], [0], [0], [4]])


class StepRefused(unittest.TestCase):
    def test_none_fits(self):
        puts = [put(i, 1) for i in range(40)]
        answered = told(*puts, rule([2], [1]), rule([0, 2], []), step(), *get_all())
        self.assertEqual(answered[42:], [[-2]] + [[1]] * 40)

    def test_no_rules(self):
        self.assertEqual(told(step(), step()), [[-2], [-2]])

    def test_too_high_changes_nothing(self):
        answered = told(rule([1], [0, 3, 1]), put(0, 2), put(2, HIGHEST), step(), *get_all())
        self.assertEqual(answered[3:], [[-3], [2], [0], [HIGHEST]] + [[0]] * 37)

    def test_a_later_rule_is_not_tried_then(self):
        answered = told(rule([], [1]), rule([], [0, 1]), put(0, HIGHEST), step(), get(0), get(1))
        self.assertEqual(answered[3:], [[-3], [HIGHEST], [0]])

    def test_a_rule_before_it_that_fits_goes_on(self):
        answered = told(rule([0, 1], []), rule([], [1]), put(0, HIGHEST), put(1, 1), step(), step())
        self.assertEqual(answered[4:], [[0], [-3]])

    def test_every_counter_is_bounded(self):
        for i in (0, 1, 38, 39):
            given = [0] * i + [2] + [0] * (39 - i)
            answered = told(rule([], given), put(i, HIGHEST - 2), step(), get(i), step(), get(i))
            self.assertEqual(answered[2:], [[0], [HIGHEST], [-3], [HIGHEST]])

    def test_one_below_the_bound(self):
        answered = told(rule([], [2]), put(0, HIGHEST - 1), step(), get(0))
        self.assertEqual(answered[2:], [[-3], [HIGHEST - 1]])


class StepAtTheBound(unittest.TestCase):
    def test_takes_of_and_gives_to_the_same_counter(self):
        answered = told(rule([3, 1], [3]), put(0, HIGHEST), put(1, 1), step(), get(0), get(1))
        self.assertEqual(answered[3:], [[0], [HIGHEST], [0]])

    def test_gives_less_than_it_takes(self):
        self.assertEqual(told(row_rule([255, 254]), put(0, HIGHEST), step(), get(0))[2:], [[0], [HIGHEST - 1]])

    def test_gives_more_than_it_takes(self):
        answered = told(row_rule([254, 255]), put(0, HIGHEST - 1), step(), get(0), step(), get(0))
        self.assertEqual(answered[2:], [[0], [HIGHEST], [-3], [HIGHEST]])


if __name__ == "__main__":
    unittest.main()
