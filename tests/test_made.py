"""Point 11: made."""

import unittest

from tests.lines import (
    HIGHEST, PRIMES, code, get, get_all, go, made, number, one_less, one_more, put, ratio, row_code, rule, run, step,
    stop, told,
)

# Register 1 is added to register 0 twice and emptied so; then register 2 is emptied.
TWICE = code(one_less(1, 1, 3), one_more(0, 2), one_more(0, 0), one_less(2, 3, 4), stop())


def prime_of(*counters):
    product = 1
    for i in counters:
        product = product * PRIMES[i]
    return product


class Made(unittest.TestCase):
    def check_rules(self, laid, expected):
        """The rules that the code makes are these: what's given, what's taken, by counters."""
        ratios = [ratio(i) for i in range(len(expected) + 1)]
        answered = told(laid, made(), *ratios)
        numbers = [[0, prime_of(*given), prime_of(*taken)] for given, taken in expected]
        self.assertEqual(answered[1:], [[len(expected)]] + numbers + [[-1]])

    def test_stop(self):
        self.check_rules(code(stop()), [([8], [24])])
        self.check_rules(row_code([0, 255, 255, 255]), [([8], [24])])

    def test_one_more(self):
        self.check_rules(code(one_more(5, 0)), [([5, 24], [8]), ([8], [24])])

    def test_one_less(self):
        laid = code(one_less(6, 0, 1), stop())
        self.check_rules(laid, [([24], [6, 8]), ([25], [8]), ([8], [24]), ([9], [25])])

    def test_several_in_their_order(self):
        laid = code(stop(), one_less(7, 3, 2), one_more(0, 1), one_less(0, 0, 0))
        self.check_rules(laid, [
            ([27], [7, 9]), ([26], [9]),
            ([0, 25], [10]),
            ([24], [0, 11]), ([24], [11]),
            ([8], [24]), ([9], [25]), ([10], [26]), ([11], [27]),
        ])

    def test_sixteen_times_one_less(self):
        expected = []
        for i in range(16):
            expected = expected + [([24 + 15 - i], [i % 8, 8 + i]), ([24 + i], [8 + i])]
        expected = expected + [([8 + i], [24 + i]) for i in range(16)]
        self.check_rules(code(*[one_less(i % 8, 15 - i, i) for i in range(16)]), expected)

    def test_no_code(self):
        puts = [put(i, 3) for i in range(40)]
        answered = told(*puts, rule([], [1]), made(), *get_all(), ratio(0), step())
        self.assertEqual(answered[41:], [[0]] + [[3]] * 8 + [[1]] + [[0]] * 31 + [[-1], [-2]])

    def test_a_code_of_none(self):
        answered = told(TWICE, go(2), row_code([]), made(), *get_all())
        self.assertEqual(answered[2:], [[0], [0]] + [[0]] * 8 + [[1]] + [[0]] * 31)

    def test_rules_that_were_there_are_gone(self):
        answered = told(*[rule([], [1])] * 64, code(stop()), made(), ratio(0), ratio(1), step(), get(0))
        self.assertEqual(answered[65:], [[1], [0, 23, 97], [-1], [-2], [0]])

    def test_rules_can_be_added_behind_them(self):
        answered = told(code(stop()), made(), rule([0] * 8 + [1], [1]), step(), get(0), get(8))
        self.assertEqual(answered[1:], [[1], [2], [1], [1], [0]])

    def test_made_again(self):
        answered = told(TWICE, made(), made(), code(stop(), stop()), made(), ratio(2))
        self.assertEqual(answered, [[5], [11], [11], [2], [2], [-1]])


class MadeCounters(unittest.TestCase):
    def test_at_the_first_instruction(self):
        puts = [put(i, 100 + i) for i in range(40)]
        answered = told(*puts, TWICE, made(), *get_all())
        self.assertEqual(answered[42:], [[100 + i] for i in range(8)] + [[1]] + [[0]] * 31)

    def test_the_highest_amounts_stay(self):
        puts = [put(i, HIGHEST) for i in range(40)]
        answered = told(*puts, TWICE, made(), *get_all())
        self.assertEqual(answered[42:], [[HIGHEST]] * 8 + [[1]] + [[0]] * 31)

    def test_at_a_later_instruction(self):
        row = code(*[one_more(7, (i + 1) % 16) for i in range(16)])
        for done in (1, 2, 14, 15, 16):
            marks = [[0]] * 16
            marks[done % 16] = [1]
            answered = told(put(30, 5), row, go(done), made(), *get_all())
            self.assertEqual(answered[3:], [[32]] + [[0]] * 7 + [[done]] + marks + [[0]] * 16)

    def test_at_a_stop(self):
        answered = told(TWICE, put(1, 1), go(9), made(), *get_all(), step())
        self.assertEqual(answered[2:], [[1, 5], [11], [2]] + [[0]] * 11 + [[1]] + [[0]] * 27 + [[-2]])

    def test_the_code_and_what_is_next_stay(self):
        answered = told(TWICE, put(1, 1), go(2), made(), go(1), made(), get(0), get(8), get(10), run(1), get(24))
        self.assertEqual(answered[2:], [[0, 2], [11], [0, 1], [11], [2], [1], [0], [0, 1], [0]])

    def test_steps_do_not_change_what_is_next(self):
        answered = told(code(one_more(0, 1), one_more(0, 2), stop()), made(), run(2), go(1), get(0), made(), get(9))
        self.assertEqual(answered[1:], [[5], [0, 2], [0, 1], [2], [5], [1]])


class StepsByThem(unittest.TestCase):
    def test_they_do_what_the_code_says(self):
        answered = told(TWICE, put(0, 5), put(1, 7), put(2, 3), made(), run(5000), *get_all())
        # Two steps an instruction: 7 times three, once for nothing in register 1, 3 times, once for nothing in 2.
        self.assertEqual(answered[4:], [[11], [1, 2 * (21 + 1 + 3 + 1)], [19]] + [[0]] * 11 + [[1]] + [[0]] * 27)

    def test_two_steps_are_one_instruction(self):
        for done in range(1, 20):
            puts = [put(0, 1), put(1, 3), put(2, 2)]
            by_code = told(*puts, TWICE, go(done), made(), number(), *get_all())
            by_rules = told(*puts, TWICE, made(), run(2 * done), number(), *get_all())
            self.assertEqual(by_code[6:], by_rules[6:])

    def test_between_two_steps(self):
        answered = told(TWICE, put(1, 1), made(), step(), *get_all())
        self.assertEqual(answered[3:], [[0]] + [[0]] * 25 + [[1]] + [[0]] * 14)

    def test_one_less_of_nothing(self):
        answered = told(code(one_less(4, 0, 1), stop()), made(), step(), get(25), step(), get(9), step())
        self.assertEqual(answered[2:], [[1], [1], [3], [1], [-2]])

    def test_one_more_of_the_highest(self):
        answered = told(code(one_more(4, 0)), put(4, HIGHEST - 1), made(), run(9), step(), get(4), get(8))
        self.assertEqual(answered[2:], [[2], [2, 2], [-3], [HIGHEST], [1]])


if __name__ == "__main__":
    unittest.main()
