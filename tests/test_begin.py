"""Point 1: begin."""

import unittest

from fortycounters.machine import answers
from tests.lines import begin, get, get_all, put, rule, run, step, told


class Begin(unittest.TestCase):
    def test_answers_nought(self):
        self.assertEqual(answers([0]), [1, 0])

    def test_all_counters_are_nought(self):
        self.assertEqual(told(*get_all()), [[0]] * 40)

    def test_there_are_no_rules(self):
        self.assertEqual(told(step(), run(3), rule([], [1])), [[-2], [1, 0], [1]])

    def test_behind_other_calls_counters_are_new(self):
        puts = [put(i, i + 1) for i in range(40)]
        answered = told(*puts, get(39), begin(), *get_all())
        self.assertEqual(answered, [[0]] * 40 + [[40], [0]] + [[0]] * 40)

    def test_behind_other_calls_rules_are_new(self):
        answered = told(rule([], [1]), rule([], [0, 1]), begin(), step(), get(0), rule([], [0, 1]), step(), get(1))
        self.assertEqual(answered, [[1], [2], [0], [-2], [0], [1], [0], [1]])

    def test_behind_full_rules_there_is_room(self):
        full = [rule([], [1])] * 64
        self.assertEqual(told(*full, rule([], [1]), begin(), rule([], [1]))[64:], [[-2], [0], [1]])

    def test_begin_again_and_again(self):
        self.assertEqual(told(begin(), begin(), put(3, 4), begin(), get(3)), [[0], [0], [0], [0], [0]])


if __name__ == "__main__":
    unittest.main()
