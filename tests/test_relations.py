"""Conditions, ways to stand and sides, each where it is so and where it isn't."""

import unittest

from tests.calling import (ADD, DROP, ONCE, REVERSE, SORT, SUM, TAKE, TIMES, TWICE, ask, last,
                           look_at, program, relation)

SAME = (0,)


class Conditions(unittest.TestCase):
    def check(self, condition, so, not_so):
        for row in so:
            seen = last(relation(*condition, 0, 0, 0), look_at(row))
            self.assertEqual(seen, [0] + 2 * [len(row), *row], (condition, row))
        for row in not_so:
            self.assertEqual(last(relation(*condition, 0, 0, 0), look_at(row)), [2], (condition, row))

    def test_any(self):
        self.check([0], [[], [0], [2, -1, 2], [-99]], [])

    def test_has_numbers(self):
        self.check([1], [[0], [-1], [3, 2]], [[]])

    def test_rising(self):
        self.check([2], [[], [5], [1, 1, 2], [-3, 0, 3]], [[2, 1], [1, 2, 1], [0, -1], [3, 1, 2]])

    def test_no_number_below_zero(self):
        self.check([3], [[], [0], [3, 0, 1]], [[-1], [0, -1, 5], [5, 5, -99]])

    def test_no_number_twice(self):
        self.check([4], [[], [0], [2, 1, -1, -2]], [[1, 1], [1, 2, 1], [3, 0, 0]])

    def test_so_many_numbers(self):
        self.check([5, 0], [[], [1]], [])
        self.check([5, 1], [[1], [1, 1]], [[]])
        self.check([5, 3], [[1, 2, 3], [1, 1, 1, 1]], [[], [1], [1, 2]])
        self.check([5, 8], [8 * [1]], [7 * [1]])
        self.check([5, 9], [], [[], 8 * [1]])

    def test_condition_is_on_the_input_not_on_what_is_turned(self):
        turned = relation(2, 1, REVERSE, 1, 0)
        self.assertEqual(ask(turned, look_at([1, 2]), look_at([2, 1]))[1:], [[0, 2, 2, 1, 2, 1, 2], [2]])


class Ways(unittest.TestCase):
    def stands(self, way, before, after, row):
        """Without steps the program leaves both turnings as the sides."""
        seen = last(relation(0, *before, way, *after), look_at(row))
        self.assertIn(seen[0], (0, 1))
        return seen[0] == 0

    def check(self, way, so, not_so):
        for case in so:
            self.assertTrue(self.stands(way, *case), (way, case))
        for case in not_so:
            self.assertFalse(self.stands(way, *case), (way, case))

    # 1 1 2 beside 2 2 1: the same numbers, as many of them, but not each as often.
    SWAPPED = (SAME, (2, TIMES, -1, ADD, 3), [1, 1, 2])
    REVERSED = ((1, REVERSE), SAME, [1, 2, 3])
    UNCHANGED = (SAME, SAME, [3, 1, 3])
    EMPTY = (SAME, SAME, [])
    SHORTER = ((1, TAKE, 1), SAME, [1, 2])
    LONGER = (SAME, (1, TAKE, 1), [1, 2])
    BEHIND = ((1, DROP, 1), SAME, [1, 2])
    LESS = ((1, ADD, -1), SAME, [5, 0])
    MORE = ((1, ADD, 1), SAME, [5, 0])
    TWOFOLD = ((1, TWICE), SAME, [1, 2])
    TO_TWOFOLD = (SAME, (1, TWICE), [1, 2])
    NOTHING_TO_SOME = ((1, TAKE, 0), SAME, [1])
    SOME_TO_NOTHING = (SAME, (1, TAKE, 0), [1])

    def test_equal(self):
        self.check(0, [self.UNCHANGED, self.EMPTY],
                   [self.REVERSED, self.SWAPPED, self.SHORTER, self.LONGER, self.LESS, self.MORE,
                    self.NOTHING_TO_SOME, self.SOME_TO_NOTHING])

    def test_bag(self):
        self.check(1, [self.UNCHANGED, self.EMPTY, self.REVERSED, ((1, SORT), SAME, [2, 1, 2])],
                   [self.SWAPPED, self.TWOFOLD, self.TO_TWOFOLD, self.SHORTER, self.LONGER, self.LESS])

    def test_numbers(self):
        self.check(2, [self.UNCHANGED, self.EMPTY, self.REVERSED, self.SWAPPED, self.TWOFOLD,
                       self.TO_TWOFOLD, ((1, ONCE), SAME, [2, 1, 2])],
                   [self.SHORTER, self.LONGER, self.LESS, self.NOTHING_TO_SOME, self.SOME_TO_NOTHING])

    def test_most(self):
        self.check(3, [self.UNCHANGED, self.EMPTY, self.LESS, ((1, SORT), SAME, [0])],
                   [self.MORE, self.REVERSED, self.SHORTER, self.LONGER, self.NOTHING_TO_SOME,
                    ((1, REVERSE), SAME, [3, 1]), ((1, REVERSE), SAME, [1, 3])])

    def test_least(self):
        self.check(4, [self.UNCHANGED, self.EMPTY, self.MORE],
                   [self.LESS, self.REVERSED, self.SHORTER, self.LONGER, self.SOME_TO_NOTHING,
                    ((1, REVERSE), SAME, [3, 1]), ((1, REVERSE), SAME, [1, 3])])

    def test_most_and_least_at_one_place_alone(self):
        # 0 0 -1 beside 0 0 1, and the other way round.
        self.assertTrue(self.stands(3, SAME, (2, TIMES, -1, ADD, 0), [0, 0, -1]))
        self.assertFalse(self.stands(4, SAME, (1, TIMES, -1), [0, 0, -1]))
        self.assertTrue(self.stands(4, SAME, (1, TIMES, -1), [0, 0, 1]))
        self.assertFalse(self.stands(3, SAME, (1, TIMES, -1), [0, 0, 1]))

    def test_begins(self):
        self.check(5, [self.UNCHANGED, self.EMPTY, self.SHORTER, self.NOTHING_TO_SOME, self.TO_TWOFOLD],
                   [self.LONGER, self.BEHIND, self.REVERSED, self.SOME_TO_NOTHING, self.TWOFOLD,
                    self.LESS])

    def test_long(self):
        self.check(6, [self.UNCHANGED, self.EMPTY, self.REVERSED, self.SWAPPED, self.LESS, self.MORE],
                   [self.SHORTER, self.LONGER, self.TWOFOLD, self.NOTHING_TO_SOME, self.SOME_TO_NOTHING])


class Sides(unittest.TestCase):
    def test_left_is_the_program_on_the_turned_right_is_turned_behind_the_program(self):
        calls = (program(1, TAKE, 1), relation(0, 1, REVERSE, 0, 1, ADD, 10), look_at([1, 2, 3]))
        self.assertEqual(last(*calls), [1, 1, 3, 1, 11])

    def test_kept_tells_both_sides_too(self):
        calls = (program(1, ADD, 1), relation(0, 1, TAKE, 1, 5, 1, TWICE), look_at([4, 5]))
        self.assertEqual(last(*calls), [0, 1, 5, 4, 5, 6, 5, 6])

    def test_three_more_of_each(self):
        calls = (program(1, SUM), relation(0, 1, ADD, 3, 0, 1, ADD, 3), look_at([7]), look_at([7, 8]))
        self.assertEqual(ask(*calls)[2:], [[0, 1, 10, 1, 10], [1, 1, 21, 1, 18]])

    def test_off_is_told_alone(self):
        self.assertEqual(last(relation(1, 0, 0, 0), look_at([])), [2])

    def test_row_of_eight_numbers_at_the_ends(self):
        row = [99, -99, 0, 99, -99, 1, 2, 3]
        self.assertEqual(last(look_at(row)), [0, 8, *row, 8, *row])


if __name__ == "__main__":
    unittest.main()
