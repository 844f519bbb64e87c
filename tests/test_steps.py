"""Each of the eighteen steps: ordinary rows, the row without numbers, the ends of c, m, k."""

import unittest

from tests.calling import (ABOVE, ABS, ADD, COUNT, DROP, GREATEST, LEAST, ONCE, REST, REVERSE,
                           ROTATE, SORT, STEPS, SUM, SUMS, TAKE, TIMES, TWICE, outcome)

EIGHT = [10, 20, 30, 40, 50, 60, 70, 80]


class Steps(unittest.TestCase):
    def check(self, step, row, expected):
        self.assertEqual(outcome([1, *step], row), expected)

    def test_numbers_of_steps(self):
        self.assertEqual((ADD, TIMES, REST, ABS, SORT, REVERSE, ROTATE, TAKE, DROP),
                         (0, 1, 2, 3, 4, 5, 6, 7, 8))
        self.assertEqual((ABOVE, ONCE, SUM, GREATEST, LEAST, COUNT, STEPS, SUMS, TWICE),
                         (9, 10, 11, 12, 13, 14, 15, 16, 17))

    def test_add(self):
        self.check((ADD, 3), [1, -5, 0], [4, -2, 3])
        self.check((ADD, 0), [1, -5, 0], [1, -5, 0])
        self.check((ADD, 99), [99, -99], [198, 0])
        self.check((ADD, -99), [99, -99], [0, -198])
        self.check((ADD, 99), [], [])

    def test_times(self):
        self.check((TIMES, 3), [1, -5, 0], [3, -15, 0])
        self.check((TIMES, 0), [1, -5, 0], [0, 0, 0])
        self.check((TIMES, 99), [99, -99], [9801, -9801])
        self.check((TIMES, -99), [99, -99], [-9801, 9801])
        self.check((TIMES, 99), [], [])

    def test_rest(self):
        self.check((REST, 3), [0, 1, 2, 3, 4, -1, -2, -3], [0, 1, 2, 0, 1, 2, 1, 0])
        self.check((REST, 1), [7, 0, -7], [0, 0, 0])
        self.check((REST, 9), [8, 9, 10, -1, -9, -10, 99, -99], [8, 0, 1, 8, 0, 8, 0, 0])
        self.check((REST, 9), [], [])

    def test_abs(self):
        self.check((ABS,), [3, -3, 0, -99], [3, 3, 0, 99])
        self.check((ABS,), [], [])

    def test_sort(self):
        self.check((SORT,), [3, -3, 0, 3, -99, 99], [-99, -3, 0, 3, 3, 99])
        self.check((SORT,), [], [])

    def test_reverse(self):
        self.check((REVERSE,), [3, 1, 2], [2, 1, 3])
        self.check((REVERSE,), [3], [3])
        self.check((REVERSE,), [], [])

    def test_rotate(self):
        self.check((ROTATE, 1), [1, 2, 3], [2, 3, 1])
        self.check((ROTATE, 2), [1, 2, 3], [3, 1, 2])
        self.check((ROTATE, 0), [1, 2, 3], [1, 2, 3])
        self.check((ROTATE, 3), [1, 2, 3], [1, 2, 3])
        self.check((ROTATE, 4), [1, 2, 3], [2, 3, 1])
        self.check((ROTATE, 9), [1, 2], [2, 1])
        self.check((ROTATE, 9), EIGHT, [20, 30, 40, 50, 60, 70, 80, 10])
        self.check((ROTATE, 9), [7], [7])
        self.check((ROTATE, 0), [], [])
        self.check((ROTATE, 9), [], [])

    def test_take(self):
        self.check((TAKE, 2), [1, 2, 3], [1, 2])
        self.check((TAKE, 0), [1, 2, 3], [])
        self.check((TAKE, 3), [1, 2, 3], [1, 2, 3])
        self.check((TAKE, 4), [1, 2, 3], [1, 2, 3])
        self.check((TAKE, 9), EIGHT, EIGHT)
        self.check((TAKE, 9), [], [])
        self.assertEqual(outcome([2, TWICE, TAKE, 9], EIGHT), EIGHT + [10])

    def test_drop(self):
        self.check((DROP, 2), [1, 2, 3], [3])
        self.check((DROP, 0), [1, 2, 3], [1, 2, 3])
        self.check((DROP, 3), [1, 2, 3], [])
        self.check((DROP, 4), [1, 2, 3], [])
        self.check((DROP, 9), EIGHT, [])
        self.check((DROP, 9), [], [])
        self.assertEqual(outcome([2, TWICE, DROP, 9], EIGHT), EIGHT[1:])

    def test_above(self):
        self.check((ABOVE, 1), [3, 1, 2, 0, 3], [3, 2, 3])
        self.check((ABOVE, 99), [99, -99], [])
        self.check((ABOVE, 98), [99, 98], [99])
        self.check((ABOVE, -99), [99, -99, -98], [99, -98])
        self.check((ABOVE, 0), [], [])

    def test_once(self):
        self.check((ONCE,), [3, 1, 3, 2, 1, 0], [3, 1, 2, 0])
        self.check((ONCE,), [2, 2, 2], [2])
        self.check((ONCE,), [], [])

    def test_sum(self):
        self.check((SUM,), [3, 1, -9], [-5])
        self.check((SUM,), [4], [4])
        self.check((SUM,), [], [0])

    def test_greatest(self):
        self.check((GREATEST,), [3, 7, -9], [7])
        self.check((GREATEST,), [-3, -2], [-2])
        self.check((GREATEST,), [], [])

    def test_least(self):
        self.check((LEAST,), [3, -9, 7], [-9])
        self.check((LEAST,), [3, 2], [2])
        self.check((LEAST,), [], [])

    def test_count(self):
        self.check((COUNT,), [3, 3, 0], [3])
        self.check((COUNT,), EIGHT, [8])
        self.check((COUNT,), [], [0])

    def test_steps(self):
        self.check((STEPS,), [3, 1, 9, 9], [-2, 8, 0])
        self.check((STEPS,), [99, -99], [-198])
        self.check((STEPS,), [3], [])
        self.check((STEPS,), [], [])

    def test_sums(self):
        self.check((SUMS,), [3, 1, -9, 2], [3, 4, -5, -3])
        self.check((SUMS,), [3], [3])
        self.check((SUMS,), [], [])

    def test_twice(self):
        self.check((TWICE,), [3, 1], [3, 1, 3, 1])
        self.check((TWICE,), EIGHT, EIGHT + EIGHT)
        self.check((TWICE,), [], [])


class Programs(unittest.TestCase):
    def test_no_steps_leave_the_row(self):
        self.assertEqual(outcome([0], [2, 1]), [2, 1])
        self.assertEqual(outcome([0], []), [])

    def test_each_step_on_what_came_of_the_one_before(self):
        self.assertEqual(outcome([2, ADD, 1, TIMES, 3], [1, 2]), [6, 9])
        self.assertEqual(outcome([2, TIMES, 3, ADD, 1], [1, 2]), [4, 7])

    def test_eight_steps(self):
        told = [8, SORT, DROP, 1, TIMES, -2, SUMS, REVERSE, ONCE, TWICE, ADD, 5]
        # 0 1 3 3; 1 3 3; -2 -6 -6; -2 -8 -14; -14 -8 -2; each twice; plus 5
        self.assertEqual(outcome(told, [3, 0, 3, 1]), [-9, -3, 3, -9, -3, 3])
        self.assertEqual(outcome([8] + 8 * [ADD, 1], [0]), [8])


if __name__ == "__main__":
    unittest.main()
