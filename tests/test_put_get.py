"""Points 3 and 4: put and get."""

import unittest

from tests.lines import HIGHEST, LOWEST, get, get_all, put, told


class Put(unittest.TestCase):
    def test_each_counter_has_its_own(self):
        puts = [put(i, 1000 + i) for i in range(40)]
        self.assertEqual(told(*puts, *get_all()), [[0]] * 40 + [[1000 + i] for i in range(40)])

    def test_first_and_last_counter(self):
        answered = told(put(0, 6), put(39, 7), *get_all())
        self.assertEqual(answered, [[0], [0], [6]] + [[0]] * 38 + [[7]])

    def test_least_and_most(self):
        self.assertEqual(told(put(5, HIGHEST), get(5), put(5, 0), get(5)), [[0], [HIGHEST], [0], [0]])

    def test_the_later_one_holds(self):
        self.assertEqual(told(put(2, 9), put(2, 4), get(2)), [[0], [0], [4]])


class PutRefused(unittest.TestCase):
    def check_refused(self, i, v):
        puts = [put(at, 10 + at) for at in range(40)]
        answered = told(*puts, put(i, v), *get_all())
        self.assertEqual(answered[40:], [[-1]] + [[10 + at] for at in range(40)])

    def test_no_such_counter(self):
        for i in (-1, 40, 41, -40, HIGHEST, LOWEST):
            self.check_refused(i, 3)

    def test_below_nought(self):
        for v in (-1, -2, LOWEST):
            self.check_refused(0, v)
            self.check_refused(39, v)

    def test_both_wrong(self):
        self.check_refused(40, -1)
        self.check_refused(-1, -1)


class Get(unittest.TestCase):
    def test_first_and_last_counter(self):
        self.assertEqual(told(put(0, 6), put(39, HIGHEST), get(0), get(39))[2:], [[6], [HIGHEST]])

    def test_leaves_the_counter_as_it_is(self):
        self.assertEqual(told(put(4, 2), get(4), get(4)), [[0], [2], [2]])

    def test_no_such_counter(self):
        puts = [put(i, 7) for i in range(40)]
        for i in (-1, 40, 41, -40, HIGHEST, LOWEST):
            self.assertEqual(told(*puts, get(i))[40:], [[-1]])


if __name__ == "__main__":
    unittest.main()
