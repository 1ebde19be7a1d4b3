"""Point 8: number."""

import unittest

from tests.lines import HIGHEST, PRIMES, get_all, number, put, rule, step, told

BOUND = 2 ** 64


class Number(unittest.TestCase):
    def test_all_counters_nought(self):
        self.assertEqual(told(number()), [[0, 1]])

    def test_one_counter(self):
        self.assertEqual(told(put(0, 1), number())[1:], [[0, 2]])
        self.assertEqual(told(put(1, 5), number())[1:], [[0, 243]])
        self.assertEqual(told(put(38, 2), number())[1:], [[0, 167 * 167]])

    def test_each_counter_has_its_prime(self):
        for i in range(40):
            self.assertEqual(told(put(i, 1), number())[1:], [[0, PRIMES[i]]])

    def test_the_last_counter(self):
        self.assertEqual(told(put(39, 1), number(), put(39, 8), number())[1:], [[0, 173], [0], [0, 173 ** 8]])

    def test_several_counters(self):
        answered = told(put(0, 3), put(2, 2), put(4, 1), put(39, 1), number())
        self.assertEqual(answered[4:], [[0, 8 * 25 * 11 * 173]])

    def test_a_counter_put_to_nought_again(self):
        self.assertEqual(told(put(3, 2), put(1, 1), put(3, 0), number())[3:], [[0, 3]])

    def test_behind_a_step(self):
        self.assertEqual(told(rule([1], [0, 2]), put(0, 2), step(), number())[2:], [[0], [0, 2 * 9]])

    def test_nothing_changes(self):
        answered = told(put(0, 3), put(39, HIGHEST), number(), *get_all(), number())
        self.assertEqual(answered[3:-1], [[3]] + [[0]] * 38 + [[HIGHEST]])
        self.assertEqual(answered[-1], answered[2])


class NumberByItsRest(unittest.TestCase):
    def test_just_below_and_at_the_bound(self):
        answered = told(put(0, 63), number(), put(0, 64), number(), put(0, 65), number())
        self.assertEqual(answered[1::2], [[0, 2 ** 63], [0, 0], [0, 0]])

    def test_odd_numbers_above_the_bound(self):
        answered = told(put(1, 40), number(), put(1, 41), number(), put(1, 64), number())
        self.assertEqual(answered[1::2], [[0, 3 ** 40], [0, 3 ** 41 - BOUND], [0, 3 ** 64 % BOUND]])

    def test_the_product_alone_is_above_the_bound(self):
        puts = [put(i, 1) for i in range(1, 40)]
        product = 1
        for prime in PRIMES[1:]:
            product = product * prime
        self.assertEqual(told(*puts, number())[39:], [[0, product % BOUND]])

    def test_the_highest_amount(self):
        for i in (0, 1, 20, 39):
            expected = pow(PRIMES[i], HIGHEST, BOUND)
            self.assertEqual(told(put(i, HIGHEST), number())[1:], [[0, expected]])

    def test_the_highest_amount_of_all(self):
        expected = 1
        for prime in PRIMES[1:]:
            expected = expected * pow(prime, HIGHEST, BOUND) % BOUND
        puts = [put(i, HIGHEST) for i in range(1, 40)]
        self.assertEqual(told(*puts, number(), put(0, HIGHEST), number())[39:], [[0, expected], [0], [0, 0]])


if __name__ == "__main__":
    unittest.main()
