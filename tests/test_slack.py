"""slack: the least and the greatest of the left side's numbers less the right side's."""

import unittest

from tests.calling import (ADD, COUNT, ONCE, REVERSE, SLACK, SORT, SUM, SUMS, TAKE, TIMES, bound, last, program,
                           relation)

SAME = (0,)


def slack(before, after, told_bound, condition=(0,), way=0):
    return last(relation(*condition, *before, way, *after), told_bound, SLACK)


class Slack(unittest.TestCase):
    def test_one_sign(self):
        self.assertEqual(slack((1, ADD, 3), SAME, bound(2, 0, 2)), [1, 3, 3])
        self.assertEqual(slack(SAME, (1, ADD, 3), bound(2, 0, 2)), [1, -3, -3])
        self.assertEqual(slack((1, TIMES, 3), SAME, bound(2, 1, 4)), [1, 2, 8])
        self.assertEqual(slack(SAME, (1, TIMES, 3), bound(2, 1, 4)), [1, -8, -2])

    def test_both_signs(self):
        self.assertEqual(slack((1, REVERSE), SAME, bound(3, -1, 4)), [1, -5, 5])
        self.assertEqual(slack((1, TIMES, 3), SAME, bound(1, -1, 4)), [1, -2, 8])
        self.assertEqual(last(program(1, SUMS), relation(0, 1, REVERSE, 0, 1, REVERSE), bound(2, 0, 2), SLACK),
                         [1, -2, 2])

    def test_no_difference(self):
        self.assertEqual(slack(SAME, SAME, bound(2, -1, 1)), [1, 0, 0])

    def test_place_by_place(self):
        # Sorted, 5 0 has 5 less at its first place and 5 more at its second one.
        self.assertEqual(slack((1, SORT), SAME, bound(2, 0, 5)), [1, -5, 5])
        self.assertEqual(slack((2, SORT, TAKE, 1), (1, TAKE, 1), bound(2, 0, 5)), [1, -5, 0])

    def test_a_row_without_numbers_does_not_hinder(self):
        self.assertEqual(slack((1, ADD, 1), SAME, bound(1, 7, 7)), [1, 1, 1])

    def test_sides_not_as_long_at_one_input(self):
        # 0 0 alone becomes shorter; the row without numbers alone has a sum that is longer.
        self.assertEqual(slack((1, ONCE), SAME, bound(2, 0, 0)), [0])
        self.assertEqual(slack((2, TAKE, 1, SUM), (1, TAKE, 1), bound(2, 0, 1)), [0])
        self.assertEqual(slack((1, TAKE, 2), SAME, bound(3, 0, 1)), [0])
        self.assertEqual(slack(SAME, (1, TAKE, 2), bound(3, 0, 1)), [0])
        self.assertEqual(slack((1, TAKE, 2), SAME, bound(2, 0, 1)), [1, 0, 0])

    def test_no_numbers_at_all(self):
        self.assertEqual(last(SLACK), [0])
        self.assertEqual(slack((1, TAKE, 0), (1, TAKE, 0), bound(2, 0, 1)), [0])

    def test_off_at_every_input(self):
        self.assertEqual(slack(SAME, SAME, bound(2, 0, 1), (5, 3)), [0])
        self.assertEqual(slack((5, COUNT, ADD, 99, TIMES, 99, TIMES, 99, TIMES, 99), SAME, bound(2, 0, 1)), [0])

    def test_the_condition_counts(self):
        self.assertEqual(slack((1, ONCE), SAME, bound(2, 0, 1), (4,)), [1, 0, 0])
        self.assertEqual(slack((2, TAKE, 1, SUM), (1, TAKE, 1), bound(2, 0, 1), (1,)), [1, 0, 0])
        self.assertEqual(slack((1, REVERSE), SAME, bound(2, 0, 5), (5, 3)), [0])
        self.assertEqual(slack((1, TIMES, 3), SAME, bound(1, -1, 4), (3,)), [1, 0, 8])

    def test_off_ones_as_beyond_do_not_count(self):
        cubed = (program(3, TIMES, 99, TIMES, 99, TIMES, 99), relation(0, 1, TIMES, -1, 0, 0))
        self.assertEqual(last(*cubed, bound(1, -2, 2), SLACK), [1, -1940598, 1940598])
        self.assertEqual(last(*cubed, bound(1, 0, 2), SLACK), [1, -1940598, 0])

    def test_the_way_to_stand_does_not(self):
        for way in range(7):
            self.assertEqual(slack((1, REVERSE), SAME, bound(2, 0, 5), way=way), [1, -5, 5])
            self.assertEqual(slack((1, TAKE, 1), SAME, bound(2, 0, 5), way=way), [0])

    def test_kept_and_broken_ones_both_count(self):
        # At most: kept where the number is 0 or above, broken below.
        self.assertEqual(slack(SAME, (1, TIMES, 2), bound(1, -3, 2), way=3), [1, -2, 3])


if __name__ == "__main__":
    unittest.main()
