"""Point 1: begin."""

import unittest

from fortycounters.machine import answers
from tests.lines import (
    alone, begin, code, get, get_all, go, made, number, one_more, put, ratio, rule, run, step, told,
)


class Begin(unittest.TestCase):
    def test_answers_nought(self):
        self.assertEqual(answers([0]), [1, 0])

    def test_all_counters_are_nought(self):
        self.assertEqual(told(*get_all()), [[0]] * 40)

    def test_there_are_no_rules(self):
        self.assertEqual(told(step(), run(3), rule([], [1])), [[-2], [1, 0], [1]])
        self.assertEqual(told(alone(0, 3), ratio(0)), [[1, 0], [-1]])

    def test_there_is_no_code(self):
        self.assertEqual(told(go(1), go(0), made()), [[1, 0], [0, 0], [0]])

    def test_the_next_instruction_is_nought(self):
        marks = [get(i) for i in range(8, 24)]
        self.assertEqual(told(made(), *marks), [[0], [1]] + [[0]] * 15)

    def test_behind_other_calls_counters_are_new(self):
        puts = [put(i, i + 1) for i in range(40)]
        answered = told(*puts, get(39), begin(), *get_all())
        self.assertEqual(answered, [[0]] * 40 + [[40], [0]] + [[0]] * 40)

    def test_behind_other_calls_rules_are_new(self):
        answered = told(rule([], [1]), rule([], [0, 1]), begin(), step(), get(0), rule([], [0, 1]), step(), get(1))
        self.assertEqual(answered, [[1], [2], [0], [-2], [0], [1], [0], [1]])

    def test_behind_full_rules_there_is_room(self):
        full = [rule([], [1])] * 64
        self.assertEqual(told(*full, rule([], [1]), begin(), rule([], [1]))[64:], [[-2], [0], [1]])

    def test_behind_a_code_there_is_none(self):
        row = code(one_more(0, 1), one_more(0, 2), one_more(0, 0))
        answered = told(row, go(2), begin(), go(5), number(), made(), get(8), get(10))
        self.assertEqual(answered, [[3], [0, 2], [0], [1, 0], [0, 1], [0], [1], [0]])

    def test_behind_made_rules_are_new(self):
        row = code(one_more(0, 0))
        answered = told(row, made(), begin(), step(), ratio(0), *get_all())
        self.assertEqual(answered, [[1], [2], [0], [-2], [-1]] + [[0]] * 40)

    def test_begin_again_and_again(self):
        self.assertEqual(told(begin(), begin(), put(3, 4), begin(), get(3)), [[0], [0], [0], [0], [0]])


if __name__ == "__main__":
    unittest.main()
