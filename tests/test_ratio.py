"""Point 9: ratio."""

import unittest

from tests.lines import (
    HIGHEST, LOWEST, PRIMES, begin, code, fraction, get_all, made, one_less, one_more, put, ratio, row_rule, rule,
    stop, told,
)

BOUND = 2 ** 64


def product(amounts):
    whole = 1
    for prime, amount in zip(PRIMES, amounts):
        whole = whole * prime ** amount
    return whole


class Ratio(unittest.TestCase):
    def test_given_first_then_taken(self):
        self.assertEqual(told(rule([1, 2], [0, 0, 1]), ratio(0)), [[1], [0, 5, 18]])

    def test_of_each_rule(self):
        rules = [fraction(17, 91), fraction(78, 85), fraction(19, 51)]
        answered = told(*rules, ratio(2), ratio(0), ratio(1))
        self.assertEqual(answered[3:], [[0, 19, 51], [0, 17, 91], [0, 78, 85]])

    def test_takes_nothing(self):
        self.assertEqual(told(rule([], [0, 3]), ratio(0)), [[1], [0, 27, 1]])

    def test_gives_nothing(self):
        self.assertEqual(told(rule([0, 3], []), ratio(0)), [[1], [0, 1, 27]])

    def test_neither(self):
        self.assertEqual(told(row_rule([]), rule([0], [0]), ratio(0), ratio(1))[2:], [[0, 1, 1], [0, 1, 1]])

    def test_what_is_taken_and_given_of_the_same_counter_stays_in_both(self):
        self.assertEqual(told(rule([3, 1], [2, 1]), ratio(0)), [[1], [0, 12, 24]])

    def test_the_last_counter(self):
        row = [0] * 38 + [1, 1] + [0] * 39 + [2]
        self.assertEqual(told(row_rule(row), ratio(0)), [[1], [0, 173 ** 2, 167 * 173]])

    def test_the_last_of_sixty_four(self):
        answered = told(*[rule([1], [])] * 63, rule([0, 1], [0, 0, 1]), ratio(63), ratio(64))
        self.assertEqual(answered[64:], [[0, 5, 3], [-1]])

    def test_of_what_made_makes(self):
        answered = told(code(one_more(3, 1), one_less(7, 0, 2), stop()), made(), *[ratio(i) for i in range(6)])
        # Counters 8, 9, 10 have 23, 29, 31; counters 24, 25, 26 have 97, 101, 103.
        self.assertEqual(answered[2:], [
            [0, 7 * 101, 23], [0, 97, 19 * 29], [0, 103, 29], [0, 23, 97], [0, 29, 101], [0, 31, 103],
        ])

    def test_counters_do_not_matter_and_stay(self):
        puts = [put(i, i) for i in range(40)]
        answered = told(*puts, rule([1], [0, 1]), ratio(0), *get_all())
        self.assertEqual(answered[41:], [[0, 3, 2]] + [[i] for i in range(40)])


class RatioByItsRest(unittest.TestCase):
    def test_just_below_and_at_the_bound(self):
        answered = told(rule([63], [64]), ratio(0), rule([255], [0, 41]), ratio(1))
        self.assertEqual(answered[1::2], [[0, 0, 2 ** 63], [0, 3 ** 41 % BOUND, 0]])

    def test_highest_amounts(self):
        taken = [0] + [255] * 39
        given = [0] + [255 - i for i in range(39)]
        answered = told(rule(taken, given), ratio(0))
        self.assertEqual(answered[1], [0, product(given) % BOUND, product(taken) % BOUND])


class RatioRefused(unittest.TestCase):
    def test_no_rules(self):
        for i in (-1, 0, 1, 63, HIGHEST, LOWEST):
            self.assertEqual(told(ratio(i)), [[-1]])

    def test_no_such_rule(self):
        for i in (-1, -2, 2, 3, 40, HIGHEST, LOWEST):
            self.assertEqual(told(rule([1], []), rule([], [1]), ratio(i), ratio(1))[2:], [[-1], [0, 2, 1]])

    def test_behind_begin_the_rules_are_gone(self):
        self.assertEqual(told(rule([1], []), begin(), ratio(0)), [[1], [0], [-1]])


if __name__ == "__main__":
    unittest.main()
