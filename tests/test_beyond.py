"""Rows just within and just beyond, and the runs that make a relation off."""

import unittest

from relationsheld.steps import is_beyond, run
from tests.calling import (ABOVE, ABS, ADD, COUNT, DROP, REST, STEPS, SUM, SUMS, TAKE, TIMES, TWICE,
                           last, look_at, outcome, program, relation)

MILLION = (TIMES, 50, TIMES, 50, TIMES, 8)
CUBE = (3, TIMES, 99, TIMES, 99, TIMES, 99)
EIGHT = [1, 2, 3, 4, 5, 6, 7, 8]


class Beyond(unittest.TestCase):
    def test_how_many_numbers(self):
        self.assertFalse(is_beyond([]))
        self.assertFalse(is_beyond(40 * [1]))
        self.assertTrue(is_beyond(41 * [1]))

    def test_how_far_a_number(self):
        for far in (1000000, -1000000):
            self.assertFalse(is_beyond([0, far, 0]))
        for far in (1000001, -1000001):
            for row in ([far, 0, 0], [0, far, 0], [0, 0, far], [far]):
                self.assertTrue(is_beyond(row), row)

    def test_no_step_makes_none_of_a_row_without_numbers(self):
        self.assertEqual(run([], []), [])
        self.assertIsNone(run([(TIMES, 99)], [10102]))
        self.assertEqual(run([(TIMES, 99)], [10101]), [999999])


class Outcomes(unittest.TestCase):
    def test_forty_numbers(self):
        self.assertEqual(outcome([3, TWICE, TWICE, TWICE], [1, 2, 3, 4, 5]), 8 * [1, 2, 3, 4, 5])
        self.assertIsNone(outcome([3, TWICE, TWICE, TWICE], [1, 2, 3, 4, 5, 6]))

    def test_twice_of_twenty_and_of_twenty_one(self):
        twenty = outcome([4, TWICE, TWICE, DROP, 9, DROP, 3], EIGHT)
        self.assertEqual(len(twenty), 20)
        self.assertEqual(outcome([5, TWICE, TWICE, DROP, 9, DROP, 3, TWICE], EIGHT), 2 * twenty)
        self.assertEqual(len(outcome([4, TWICE, TWICE, DROP, 9, DROP, 2], EIGHT)), 21)
        self.assertIsNone(outcome([5, TWICE, TWICE, DROP, 9, DROP, 2, TWICE], EIGHT))

    def test_a_million(self):
        self.assertEqual(outcome([3, *MILLION], [50]), [1000000])
        self.assertIsNone(outcome([4, *MILLION, ADD, 1], [50]))
        self.assertEqual(outcome([3, *MILLION], [-50]), [-1000000])
        self.assertIsNone(outcome([4, *MILLION, ADD, -1], [-50]))
        self.assertEqual(outcome([4, *MILLION, ADD, -1], [50, 0]), [999999, -1])

    def test_a_million_at_any_place(self):
        self.assertEqual(outcome([3, *MILLION], [0, 50, -50]), [0, 1000000, -1000000])
        for row in ([50, 0, 0], [0, 50, 0], [0, 0, 50]):
            self.assertIsNone(outcome([4, *MILLION, ADD, 1], row))

    def test_only_a_step_in_the_middle(self):
        self.assertIsNone(outcome([5, *MILLION, ADD, 1, ADD, -1], [50]))
        self.assertEqual(outcome([5, *MILLION, ADD, -1, ADD, 1], [50]), [1000000])
        self.assertIsNone(outcome([5, *MILLION, ADD, -1, ADD, 1], [-50]))
        for hides in ((TAKE, 0), (REST, 9), (COUNT,), (TIMES, 0), (ABOVE, 99), (STEPS,), (ABS,)):
            self.assertIsNone(outcome([5, *MILLION, ADD, 1, *hides], [50]), hides)
        self.assertIsNone(outcome([4, TWICE, TWICE, TWICE, TAKE, 1], EIGHT))
        self.assertIsNone(outcome([4, TWICE, TWICE, TWICE, COUNT], EIGHT))

    def test_sums_of_rows_that_are_within(self):
        row = [60, 60, -60]
        self.assertEqual(outcome([3, TIMES, 99, TIMES, 99, SUM], row), [588060])
        self.assertIsNone(outcome([3, TIMES, 99, TIMES, 99, SUMS], row))
        self.assertIsNone(outcome([3, TIMES, 99, TIMES, 99, SUM], [60, 60]))
        self.assertIsNone(outcome([3, TIMES, 99, TIMES, 99, STEPS], [60, -60]))


class FourRuns(unittest.TestCase):
    """Each run beyond at the row 2 alone, and none of them at the row 1."""

    def seen(self, told_program, before, after, row):
        return last(program(*told_program), relation(0, *before, 0, *after), look_at(row))

    def test_the_program_on_the_input(self):
        self.assertEqual(self.seen(CUBE, (1, TAKE, 0), (0,), [1]), [1, 0, 1, 970299])
        self.assertEqual(self.seen(CUBE, (1, TAKE, 0), (0,), [2]), [2])
        self.assertEqual(self.seen(CUBE, (1, TAKE, 0), (1, TAKE, 0), [1]), [0, 0, 0])
        self.assertEqual(self.seen(CUBE, (1, TAKE, 0), (1, TAKE, 0), [2]), [2])

    def test_the_turning_of_the_input(self):
        self.assertEqual(self.seen((1, TAKE, 0), CUBE, (0,), [1]), [0, 0, 0])
        self.assertEqual(self.seen((1, TAKE, 0), CUBE, (0,), [2]), [2])

    def test_the_program_on_what_is_turned(self):
        squared = (2, TIMES, 99, TIMES, 99)
        self.assertEqual(self.seen(squared, (1, TIMES, 99), (0,), [1]), [1, 1, 970299, 1, 9801])
        self.assertEqual(self.seen(squared, (1, TIMES, 99), (0,), [2]), [2])

    def test_the_turning_of_the_output(self):
        self.assertEqual(self.seen((1, ADD, 0), (0,), CUBE, [1]), [1, 1, 1, 1, 970299])
        self.assertEqual(self.seen((1, ADD, 0), (0,), CUBE, [2]), [2])

    def test_too_many_numbers_in_each_run(self):
        eightfold = (3, TWICE, TWICE, TWICE)
        none = (1, TAKE, 0)
        within = EIGHT[:5]
        beyond = EIGHT[:6]
        for parts in ((eightfold, none, (0,)), (none, eightfold, (0,)), ((0,), (0,), eightfold)):
            self.assertNotEqual(self.seen(*parts, within), [2], parts)
            self.assertEqual(self.seen(*parts, beyond), [2], parts)
        self.assertNotEqual(self.seen((2, TWICE, TWICE), (1, TWICE), (0,), within), [2])
        self.assertEqual(self.seen((2, TWICE, TWICE), (1, TWICE), (0,), beyond), [2])


if __name__ == "__main__":
    unittest.main()
