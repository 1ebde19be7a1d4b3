"""Point 10: code."""

import unittest

from tests.lines import code, get, get_all, go, made, one_less, one_more, put, ratio, row_code, rule, stop, told

# Behind three instructions it's at the last one, which is followed by itself; register 2 tells how many were done.
KEPT = code(one_more(2, 1), one_more(2, 2), one_more(2, 3), one_more(2, 3))


class Code(unittest.TestCase):
    def test_none(self):
        self.assertEqual(told(row_code([]), go(3)), [[0], [1, 0]])

    def test_one_instruction(self):
        self.assertEqual(told(row_code([1, 0, 0, 0]), go(3), get(0)), [[1], [0, 3], [3]])
        self.assertEqual(told(code(stop()), go(3)), [[1], [1, 0]])

    def test_sixteen_instructions(self):
        row = [one_more(i % 8, (i + 1) % 16) for i in range(16)]
        answered = told(code(*row), go(32), go(3), *get_all())
        self.assertEqual(answered, [[16], [0, 32], [0, 3]] + [[5]] * 3 + [[4]] * 5 + [[0]] * 32)

    def test_a_new_one_begins_at_its_first_instruction(self):
        again = code(one_more(5, 1), one_more(6, 2), one_more(7, 3), stop())
        answered = told(KEPT, go(3), again, go(2), get(5), get(6), get(7))
        self.assertEqual(answered, [[4], [0, 3], [4], [0, 2], [1], [1], [0]])

    def test_the_same_one_again_begins_anew(self):
        back = code(one_more(0, 1), stop())
        self.assertEqual(told(back, go(9), go(9), back, go(9), get(0)), [[2], [1, 1], [1, 0], [2], [1, 1], [2]])

    def test_none_behind_one(self):
        answered = told(KEPT, go(3), row_code([]), go(1), made(), get(8), get(11))
        self.assertEqual(answered, [[4], [0, 3], [0], [1, 0], [0], [1], [0]])

    def test_counters_and_rules_stay(self):
        puts = [put(i, 20 + i) for i in range(40)]
        answered = told(*puts, rule([1], [0, 1]), code(stop(), stop()), *get_all(), ratio(0), ratio(1))
        self.assertEqual(answered[41:], [[2]] + [[20 + i] for i in range(40)] + [[0, 3, 2], [-1]])

    def test_any_bytes_behind_a_stop(self):
        for told_behind in ([255, 255, 255], [8, 0, 0], [0, 1, 0], [0, 0, 1], [7, 9, 16]):
            self.assertEqual(told(row_code([0] + told_behind), go(2)), [[1], [1, 0]])

    def test_any_last_byte_of_one_more(self):
        for k in (0, 1, 7, 16, 255):
            self.assertEqual(told(row_code([1, 7, 0, k]), go(2), get(7)), [[1], [0, 2], [2]])

    def test_highest_that_are_instructions(self):
        answered = told(row_code([2, 7, 1, 1, 1, 7, 1, 255]), go(3), get(7))
        self.assertEqual(answered, [[2], [0, 3], [2]])


class CodeRefused(unittest.TestCase):
    def check_refused(self, row, refusal):
        """It's refused, and the code that was there goes on where it was; so do rules and counters."""
        calls = [rule([1], [0, 1]), put(9, 4), KEPT, go(2)]
        answered = told(*calls, row_code(row), get(9), ratio(0), go(5), get(2), made(), get(8), get(11))
        self.assertEqual(answered[4:], [[refusal], [4], [0, 3, 2], [0, 5], [7], [8], [0], [1]])

    def test_no_multiple_of_four(self):
        for length in (1, 2, 3, 5, 6, 7, 61, 62, 63):
            self.check_refused([0] * length, -1)

    def test_no_multiple_of_four_goes_before_what_is_no_instruction(self):
        self.check_refused([3, 8, 9, 9, 9], -1)
        self.check_refused([255] * 63, -1)

    def test_first_byte_above_two(self):
        for a in (3, 4, 255):
            self.check_refused([a, 0, 0, 0], -2)

    def test_no_such_register(self):
        for r in (8, 9, 39, 255):
            self.check_refused([1, r, 0, 0], -2)
            self.check_refused([2, r, 0, 0], -2)

    def test_no_such_instruction_behind_it(self):
        for a in (1, 2):
            self.check_refused([a, 0, 1, 0], -2)
            self.check_refused([a, 0, 255, 0], -2)
            self.check_refused([a, 0, 2, 0, 0, 0, 0, 0], -2)
            self.check_refused([0, 0, 0, 0] * 15 + [a, 0, 16, 0], -2)

    def test_no_such_instruction_behind_one_less_of_nothing(self):
        for k in (1, 2, 255):
            self.check_refused([2, 0, 0, k], -2)
        self.check_refused([0, 0, 0, 0] * 15 + [2, 0, 15, 16], -2)

    def test_one_wrong_among_many(self):
        for at in (0, 1, 15):
            row = [1, 0, 15, 0] * 16
            row[4 * at] = 3
            self.check_refused(row, -2)

    def test_without_a_code(self):
        self.assertEqual(told(row_code([0]), go(1), made()), [[-1], [1, 0], [0]])
        self.assertEqual(told(row_code([3, 0, 0, 0]), go(1), made()), [[-2], [1, 0], [0]])

    def test_what_stands_behind_it_is_read_right(self):
        answered = told(row_code([2, 3, 4]), put(3, 8), row_code([1, 8, 0, 0]), get(3))
        self.assertEqual(answered, [[-1], [0], [-2], [8]])


class CodeBounds(unittest.TestCase):
    def test_the_code_it_is_counts_not_the_one_that_was(self):
        answered = told(KEPT, code(one_more(0, 3)), code(one_less(0, 0, 3)), code(one_less(0, 0, 0)))
        self.assertEqual(answered, [[4], [-2], [-2], [1]])


if __name__ == "__main__":
    unittest.main()
