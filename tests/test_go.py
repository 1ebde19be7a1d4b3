"""Point 12: go."""

import unittest

from tests.lines import (
    HIGHEST, LOWEST, code, get, get_all, go, made, one_less, one_more, put, ratio, rule, run, stop, told,
)

# Register 1 goes over to register 0, one by one.
OVER = code(one_less(1, 1, 2), one_more(0, 0), stop())


class Go(unittest.TestCase):
    def test_all_instructions_done(self):
        self.assertEqual(told(OVER, put(1, 4), go(5), get(0), get(1))[2:], [[0, 5], [2], [1]])

    def test_at_a_stop(self):
        self.assertEqual(told(OVER, put(1, 4), go(50), get(0), get(1))[2:], [[1, 9], [4], [0]])

    def test_at_a_stop_at_once(self):
        self.assertEqual(told(code(stop(), one_more(0, 0)), go(7), go(1), get(0))[1:], [[1, 0], [1, 0], [0]])

    def test_all_done_goes_before_the_stop(self):
        self.assertEqual(told(OVER, put(1, 4), go(9), go(1), go(0))[2:], [[0, 9], [1, 0], [0, 0]])

    def test_no_code(self):
        self.assertEqual(told(go(1), go(5000), go(0)), [[1, 0], [1, 0], [0, 0]])

    def test_what_is_next_is_kept(self):
        laid = code(one_more(0, 1), one_more(1, 2), one_more(2, 3), one_more(3, 0))
        gets = [get(i) for i in range(4)]
        answered = told(laid, go(1), go(2), *gets, go(2), *gets)
        self.assertEqual(answered[1:], [[0, 1], [0, 2], [1], [1], [1], [0], [0, 2], [2], [1], [1], [1]])

    def test_other_calls_leave_what_is_next(self):
        laid = code(one_more(0, 1), one_more(1, 2), stop())
        answered = told(laid, go(1), put(5, 5), rule([0, 0, 0, 0, 0, 1], []), run(9), ratio(0), go(9), get(0), get(1))
        self.assertEqual(answered[1:], [[0, 1], [0], [1], [1, 5], [0, 1, 13], [1, 1], [1], [1]])

    def test_one_less_of_something_and_of_nothing(self):
        laid = code(one_less(7, 1, 2), one_more(0, 3), one_more(1, 3), stop())
        self.assertEqual(told(laid, put(7, 1), go(9), get(7), get(0), get(1))[2:], [[1, 2], [0], [1], [0]])
        self.assertEqual(told(laid, go(9), get(7), get(0), get(1))[1:], [[1, 2], [0], [0], [1]])

    def test_one_less_of_the_highest(self):
        self.assertEqual(told(OVER, put(1, HIGHEST), go(1), get(1))[2:], [[0, 1], [HIGHEST - 1]])

    def test_an_instruction_followed_by_itself(self):
        answered = told(code(one_less(3, 0, 1), stop()), put(3, 6), go(99), get(3))
        self.assertEqual(answered[2:], [[1, 7], [0]])

    def test_each_register(self):
        for r in range(8):
            answered = told(code(one_more(r, 1), one_more(r, 2), one_less(r, 3, 3), stop()), go(9), *get_all())
            self.assertEqual(answered[1:], [[1, 3]] + [[0]] * r + [[1]] + [[0]] * (39 - r))

    def test_other_counters_stay(self):
        puts = [put(i, 200 + i) for i in range(8, 40)]
        answered = told(*puts, OVER, put(1, 30), go(50), go(50), *get_all())
        self.assertEqual(answered[34:], [[0, 50], [1, 11], [30]] + [[0]] * 7 + [[200 + i] for i in range(8, 40)])

    def test_rules_are_not_looked_at_and_stay(self):
        answered = told(rule([], [1]), OVER, put(1, 2), go(9), ratio(0), ratio(1), made(), go(9), get(0))
        self.assertEqual(answered[3:], [[1, 5], [0, 2, 1], [-1], [6], [1, 0], [2]])

    def test_no_instructions_asked_for(self):
        answered = told(OVER, put(1, 4), go(0), get(1), go(3), go(0), get(0), get(1))
        self.assertEqual(answered[2:], [[0, 0], [4], [0, 3], [0, 0], [1], [2]])

    def test_five_thousand_instructions(self):
        self.assertEqual(told(code(one_more(0, 0)), go(5000), get(0))[1:], [[0, 5000], [5000]])
        self.assertEqual(told(OVER, put(1, 2499), go(5000), get(0))[2:], [[1, 4999], [2499]])


class GoTooHigh(unittest.TestCase):
    def test_nothing_of_that_instruction_is_done(self):
        laid = code(one_more(0, 1), one_more(1, 2), one_more(0, 2))
        answered = told(laid, put(1, HIGHEST), go(9), go(9), *get_all())
        self.assertEqual(answered[2:], [[2, 1], [2, 0], [1], [HIGHEST]] + [[0]] * 38)

    def test_the_same_instruction_stays_the_next(self):
        laid = code(one_more(0, 1), one_more(1, 2), stop())
        answered = told(laid, put(1, HIGHEST), go(9), made(), get(9), put(1, 3), go(9), get(0), get(1))
        self.assertEqual(answered[2:], [[2, 1], [5], [1], [0], [1, 1], [1], [4]])

    def test_up_to_the_highest(self):
        answered = told(code(one_more(6, 0)), put(6, HIGHEST - 3), go(9), get(6))
        self.assertEqual(answered[2:], [[2, 3], [HIGHEST]])

    def test_all_done_goes_before_it(self):
        answered = told(code(one_more(6, 0)), put(6, HIGHEST - 3), go(3), go(1), go(0))
        self.assertEqual(answered[2:], [[0, 3], [2, 0], [0, 0]])

    def test_every_register_is_bounded(self):
        for r in range(8):
            answered = told(code(one_more(r, 0)), put(r, HIGHEST - 1), go(2), get(r))
            self.assertEqual(answered[2:], [[2, 1], [HIGHEST]])


class GoRefused(unittest.TestCase):
    def test_below_nought_and_above_a_milliard(self):
        for k in (-1, -2, LOWEST, 1000000001, HIGHEST):
            self.assertEqual(told(go(k)), [[-1]])

    def test_nothing_changes(self):
        for k in (-1, LOWEST, 1000000001, HIGHEST):
            answered = told(OVER, put(1, 4), go(3), go(k), *get_all(), go(1), get(0), get(1))
            self.assertEqual(answered[3:], [[-1], [1], [2]] + [[0]] * 38 + [[0, 1], [2], [2]])

    def test_a_milliard_itself_is_not_refused(self):
        self.assertEqual(told(OVER, put(1, 4), go(1000000000))[2:], [[1, 9]])


if __name__ == "__main__":
    unittest.main()
