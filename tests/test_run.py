"""Point 6: run."""

import unittest

from tests.lines import HIGHEST, LOWEST, get, get_all, put, rule, run, step, told


class Run(unittest.TestCase):
    def test_all_steps_done(self):
        self.assertEqual(told(rule([1], [0, 2]), put(0, 9), run(4), get(0), get(1))[2:], [[0, 4], [5], [8]])

    def test_no_rule_fits_any_more(self):
        self.assertEqual(told(rule([1], [0, 2]), put(0, 9), run(10), get(0), get(1))[2:], [[1, 9], [0], [18]])

    def test_all_steps_done_goes_before_none_fits(self):
        self.assertEqual(told(rule([1], []), put(0, 9), run(9), run(1), get(0))[2:], [[0, 9], [1, 0], [0]])

    def test_too_high_by_the_next(self):
        answered = told(rule([], [2, 1]), put(0, HIGHEST - 7), run(10), get(0), get(1))
        self.assertEqual(answered[2:], [[2, 3], [HIGHEST - 1], [3]])

    def test_all_steps_done_goes_before_too_high(self):
        answered = told(rule([], [2]), put(0, HIGHEST - 6), run(3), run(1), get(0))
        self.assertEqual(answered[2:], [[0, 3], [2, 0], [HIGHEST]])

    def test_too_high_though_a_later_rule_fits(self):
        answered = told(rule([], [1]), rule([], [0, 1]), put(0, HIGHEST), run(2), get(0), get(1))
        self.assertEqual(answered[3:], [[2, 0], [HIGHEST], [0]])

    def test_no_rules(self):
        self.assertEqual(told(run(5000)), [[1, 0]])

    def test_several_rules_take_turns(self):
        # 6 times 7: a mark goes to and fro between counters 3 and 4 while 7 is added; then 5 fills 1 anew.
        rules = [
            rule([0, 1, 0, 1], [0, 0, 1, 0, 1, 1]),
            rule([0, 0, 0, 0, 1], [0, 0, 0, 1]),
            rule([0, 0, 0, 1], []),
            rule([0, 0, 0, 0, 0, 1], [0, 1]),
        ]
        answered = told(*rules, rule([1], [0, 0, 0, 1]), put(0, 6), put(1, 7), run(5000), *get_all())
        self.assertEqual(answered[7:], [[1, 6 * (2 * 7 + 1 + 7 + 1)], [0], [7], [42]] + [[0]] * 37)

    def test_goes_on_where_it_was(self):
        answered = told(rule([2], [0, 1]), put(0, 9), run(1), step(), run(1), run(9), get(0), get(1))
        self.assertEqual(answered[2:], [[0, 1], [0], [0, 1], [1, 1], [1], [4]])

    def test_no_steps(self):
        self.assertEqual(told(run(0), rule([], [1]), run(0), get(0)), [[0, 0], [1], [0, 0], [0]])
        self.assertEqual(told(rule([], [1]), put(0, HIGHEST), run(0), get(0))[2:], [[0, 0], [HIGHEST]])

    def test_five_thousand_steps(self):
        self.assertEqual(told(rule([], [1]), run(5000), get(0)), [[1], [0, 5000], [5000]])
        self.assertEqual(told(rule([1], []), put(0, 4999), run(5000), get(0))[2:], [[1, 4999], [0]])


class RunRefused(unittest.TestCase):
    def test_below_nought_and_above_a_milliard(self):
        for k in (-1, -2, LOWEST, 1000000001, HIGHEST):
            self.assertEqual(told(run(k)), [[-1]])

    def test_a_milliard_itself_is_not_refused(self):
        self.assertEqual(told(rule([1], []), put(0, 3), run(1000000000))[2:], [[1, 3]])

    def test_nothing_changes(self):
        for k in (-1, 1000000001):
            answered = told(rule([1], [0, 1]), put(0, 5), run(k), *get_all(), step())
            self.assertEqual(answered[2:], [[-1], [5]] + [[0]] * 39 + [[0]])


if __name__ == "__main__":
    unittest.main()
