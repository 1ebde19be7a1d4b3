"""Point 7: alone."""

import unittest

from tests.lines import HIGHEST, LOWEST, alone, fraction, get, get_all, number, put, rule, run, told

PRIMES_GAME = [
    (17, 91), (78, 85), (19, 51), (23, 38), (29, 33), (77, 29), (95, 23),
    (77, 19), (1, 17), (11, 13), (13, 11), (15, 2), (1, 7), (55, 1),
]


class Alone(unittest.TestCase):
    def test_steps_till_the_others_are_nought(self):
        answered = told(rule([1], [0, 2]), put(0, 3), alone(1, 9), get(0), get(1))
        self.assertEqual(answered[2:], [[3, 3], [0], [6]])

    def test_each_counter_can_be_the_one(self):
        for i in (0, 1, 38, 39):
            at, other = (39 - i, i)
            moved = rule([0] * at + [1], [0] * other + [1])
            answered = told(moved, put(at, 2), alone(other, 9), get(at), get(other))
            self.assertEqual(answered[2:], [[3, 2], [0], [2]])

    def test_it_may_be_nought_itself(self):
        answered = told(rule([1], []), put(0, 4), alone(1, 9), *get_all())
        self.assertEqual(answered[2:], [[3, 4]] + [[0]] * 40)
        self.assertEqual(told(rule([1], []), put(0, 1), alone(0, 9), get(0))[2:], [[3, 1], [0]])

    def test_the_last_step_that_is_allowed_may_be_the_one(self):
        self.assertEqual(told(rule([1], [0, 2]), put(0, 3), alone(1, 3))[2:], [[3, 3]])

    def test_the_last_step_that_there_is_may_be_the_one(self):
        self.assertEqual(told(rule([1], []), put(0, 3), alone(5, 5000), run(1))[2:], [[3, 3], [1, 0]])

    def test_one_step_at_least_is_taken(self):
        rules = [rule([0, 1], [1]), rule([1], [0, 1])]
        answered = told(*rules, put(0, 1), alone(0, 9), get(0), get(1))
        self.assertEqual(answered[3:], [[3, 2], [1], [0]])

    def test_one_step_is_taken_and_it_is_so_again(self):
        answered = told(rule([2], [1]), put(0, 5), alone(0, 9), get(0), alone(0, 9), get(0))
        self.assertEqual(answered[2:], [[3, 1], [4], [3, 1], [3]])

    def test_each_other_counter_counts(self):
        for i in range(1, 40):
            answered = told(rule([1], [1]), put(0, 1), put(i, 1), alone(0, 4), alone(i, 4))
            self.assertEqual(answered[3:], [[0, 4], [0, 4]])

    def test_the_primes_game(self):
        rules = [fraction(given, taken) for given, taken in PRIMES_GAME]
        calls = [alone(0, 5000), get(0), number()] * 5
        answered = told(*rules, put(0, 1), *calls)
        expected = []
        for steps, prime in ((19, 2), (50, 3), (212, 5), (429, 7), (1665, 11)):
            expected = expected + [[3, steps], [prime], [0, 2 ** prime]]
        self.assertEqual(answered[15:], expected)


class AloneNotReached(unittest.TestCase):
    def test_all_steps_done(self):
        answered = told(rule([1], [0, 2]), put(0, 3), alone(1, 2), get(0), get(1))
        self.assertEqual(answered[2:], [[0, 2], [1], [4]])

    def test_no_rule_fits_any_more(self):
        answered = told(rule([2], [0, 1]), put(0, 5), alone(1, 9), get(0), get(1))
        self.assertEqual(answered[2:], [[1, 2], [1], [2]])

    def test_no_rule_fits_though_it_was_so_before(self):
        self.assertEqual(told(put(4, 7), alone(4, 9), alone(5, 9), get(4)), [[0], [1, 0], [1, 0], [7]])
        self.assertEqual(told(alone(0, 5000)), [[1, 0]])

    def test_too_high_by_the_next(self):
        answered = told(rule([], [2, 1]), put(0, HIGHEST - 7), alone(0, 9), get(0), get(1))
        self.assertEqual(answered[2:], [[2, 3], [HIGHEST - 1], [3]])

    def test_too_high_though_it_was_so_before(self):
        self.assertEqual(told(rule([], [1]), put(0, HIGHEST), alone(0, 9), get(0))[2:], [[2, 0], [HIGHEST]])

    def test_all_steps_done_goes_before_what_the_next_would_be(self):
        self.assertEqual(told(rule([1], []), put(0, 2), put(1, 1), alone(0, 2))[3:], [[0, 2]])
        self.assertEqual(told(rule([], [1]), put(0, HIGHEST - 2), alone(1, 2))[2:], [[0, 2]])

    def test_no_steps(self):
        answered = told(rule([1], [0, 1]), put(0, 3), alone(0, 0), alone(1, 0), get(0))
        self.assertEqual(answered[2:], [[0, 0], [0, 0], [3]])
        self.assertEqual(told(alone(0, 0)), [[0, 0]])

    def test_five_thousand_steps(self):
        self.assertEqual(told(rule([], [1]), alone(1, 5000), get(0)), [[1], [0, 5000], [5000]])
        self.assertEqual(told(rule([1], []), put(0, 5000), alone(1, 5000))[2:], [[3, 5000]])


class AloneRefused(unittest.TestCase):
    def check_refused(self, i, k):
        answered = told(rule([1], [0, 1]), put(0, 5), alone(i, k), *get_all(), run(1))
        self.assertEqual(answered[2:], [[-1], [5]] + [[0]] * 39 + [[0, 1]])

    def test_no_such_counter(self):
        for i in (-1, 40, 41, -40, LOWEST, HIGHEST):
            self.check_refused(i, 3)
            self.check_refused(i, 0)

    def test_below_nought_and_above_a_milliard(self):
        for k in (-1, LOWEST, 1000000001, HIGHEST):
            self.check_refused(0, k)
            self.check_refused(39, k)

    def test_both_wrong(self):
        self.check_refused(-1, -1)
        self.check_refused(40, 1000000001)

    def test_a_milliard_itself_is_not_refused(self):
        self.assertEqual(told(rule([1], []), put(0, 3), alone(1, 1000000000))[2:], [[3, 3]])


if __name__ == "__main__":
    unittest.main()
