"""conds and cut: other conditions in the place of the relation's own one."""

import unittest

from tests.calling import (ABS, ADD, CONDS, COUNT, CUT, DROP, HELD, ONCE, REVERSE, SORT, SUM, SUMS, TAKE, TIMES,
                           ask, bound, last, program, relation)

SAME = (0,)
LOOKED_AT = ((0,), (1,), (2,), (3,), (4,), (5, 2), (5, 3))
OTHERS = ((5, 0), (5, 1), (5, 4), (5, 9))

# A 1 alone where there are k numbers or more, else a 0 alone; and a 1 alone of any row.
TWO_OR_MORE = (3, TAKE, 2, DROP, 1, COUNT)
THREE_OR_MORE = (3, TAKE, 3, DROP, 2, COUNT)
ALWAYS_ONE = (3, TAKE, 0, COUNT, ADD, 1)

ALWAYS_BEYOND = (5, COUNT, ADD, 99, TIMES, 99, TIMES, 99, TIMES, 99)


def conds(before, after, told_bound, condition=(0,)):
    return last(relation(*condition, *before, 0, *after), told_bound, CONDS)


def cut(before, after, told_bound, condition=(0,)):
    return last(relation(*condition, *before, 0, *after), told_bound, CUT)


class Conds(unittest.TestCase):
    def test_rows_that_are_the_same_turned_round(self):
        self.assertEqual(conds((1, REVERSE), SAME, bound(2, -1, 1)), [7, 6, 6, 6, 7, 3, 5, 2, 4, 6, 3, 6, 0, 0])
        self.assertEqual(conds((1, REVERSE), SAME, bound(3, 0, 1)), [9, 6, 8, 6, 7, 3, 9, 6, 3, 2, 6, 6, 4, 4])

    def test_at_the_beginning(self):
        self.assertEqual(last(CONDS), [1, 0, 0, 0, 1, 0, 1, 0, 1, 0, 0, 0, 0, 0])

    def test_the_relations_own_condition_does_not_count(self):
        for condition in LOOKED_AT + OTHERS:
            self.assertEqual(conds((1, REVERSE), SAME, bound(3, 0, 1), condition),
                             [9, 6, 8, 6, 7, 3, 9, 6, 3, 2, 6, 6, 4, 4], condition)

    def test_each_as_held_tells_with_it_as_the_relations_own_one(self):
        for before, after in (((1, REVERSE), SAME), ((1, SORT), SAME), ((1, ABS), SAME), ((1, ONCE), SAME),
                              ((3, TIMES, 99, TIMES, 99, TIMES, 99), (1, ABS))):
            expected = []
            for condition in LOOKED_AT:
                expected.extend(last(relation(*condition, *before, 0, *after), bound(3, -2, 2), HELD)[:2])
            self.assertEqual(conds(before, after, bound(3, -2, 2), (5, 1)), expected, (before, after))

    def test_off_ones_are_neither_kept_nor_broken(self):
        # Of the row without numbers and -2 to 2, the ends are beyond.
        calls = (program(3, TIMES, 99, TIMES, 99, TIMES, 99), relation(0, 1, TIMES, -1, 0, 0), bound(1, -2, 2), CONDS)
        self.assertEqual(last(*calls), [2, 2, 1, 2, 2, 2, 2, 1, 2, 2, 0, 0, 0, 0])
        self.assertEqual(conds(ALWAYS_BEYOND, SAME, bound(3, 0, 1)), 14 * [0])

    def test_the_way_to_stand_counts(self):
        told = (bound(2, 0, 1), relation(0, 1, REVERSE, 1, 0), CONDS)
        self.assertEqual(last(*told), [7, 0, 6, 0, 6, 0, 7, 0, 5, 0, 4, 0, 0, 0])


class Cut(unittest.TestCase):
    def test_none(self):
        self.assertEqual(last(program(1, SUMS), relation(0, 1, REVERSE, 0, 1, REVERSE), bound(2, 0, 2), CUT), [0])
        self.assertEqual(cut((1, TAKE, 0), ALWAYS_ONE, bound(3, 0, 1)), [0])

    def test_any(self):
        self.assertEqual(last(CUT), [1, 0])
        self.assertEqual(cut(SAME, SAME, bound(3, -1, 1)), [1, 0])

    def test_has_numbers(self):
        # The sum of none is 0, but the first of none is none.
        self.assertEqual(cut((2, TAKE, 1, SUM), (1, TAKE, 1), bound(2, -1, 1)), [1, 1])

    def test_rising(self):
        self.assertEqual(cut((1, SORT), SAME, bound(2, -1, 1)), [1, 2])

    def test_no_number_below_zero(self):
        self.assertEqual(cut((1, ABS), SAME, bound(2, -1, 1)), [1, 3])

    def test_no_number_twice(self):
        self.assertEqual(cut((1, ONCE), SAME, bound(2, -1, 1)), [1, 4])

    def test_two_numbers_or_more(self):
        self.assertEqual(cut(TWO_OR_MORE, ALWAYS_ONE, bound(2, -1, 1)), [1, 5, 2])
        self.assertEqual(cut(TWO_OR_MORE, ALWAYS_ONE, bound(3, -1, 1)), [1, 5, 2])

    def test_three_numbers_or_more(self):
        self.assertEqual(cut(THREE_OR_MORE, ALWAYS_ONE, bound(3, -1, 1)), [1, 5, 3])

    def test_kept_nowhere_is_not_enough(self):
        # There are no rows of three numbers in the one bound, none with numbers in the other.
        self.assertEqual(cut(THREE_OR_MORE, ALWAYS_ONE, bound(2, -1, 1)), [0])
        self.assertEqual(cut(TWO_OR_MORE, ALWAYS_ONE, bound(0, 0, 0)), [0])

    def test_kept_nowhere_is_passed_over(self):
        # Beyond at 0 numbers, not at 1 and 2, so that nothing is left where no number is below 0.
        told = (TIMES, -1, ADD, 2, TIMES, 99, TIMES, 99, TIMES, 99)
        calls = (relation(0, 7, ONCE, COUNT, *told, 0, 6, COUNT, *told), bound(2, -2, -1), CONDS, CUT)
        self.assertEqual(ask(*calls)[2:], [[4, 2, 4, 2, 3, 2, 0, 0, 4, 0, 2, 2, 0, 0], [1, 4]])

    def test_off_everywhere(self):
        self.assertEqual(cut(ALWAYS_BEYOND, SAME, bound(3, 0, 1)), [0])

    def test_off_as_beyond_somewhere(self):
        # 99 times 99 times 99 times 1 isn't beyond, of 2 it is; -1 has another sign.
        cubed = (3, TIMES, 99, TIMES, 99, TIMES, 99)
        calls = (program(*cubed), relation(0, 1, ABS, 0, 0), bound(1, -2, 2), CUT, bound(1, 0, 2), CUT)
        self.assertEqual(ask(*calls)[3::2], [[1, 3], [1, 0]])

    def test_the_relations_own_condition_does_not_count(self):
        for condition in LOOKED_AT + OTHERS:
            self.assertEqual(cut((1, SORT), SAME, bound(3, -1, 1), condition), [1, 2], condition)
            self.assertEqual(cut(THREE_OR_MORE, ALWAYS_ONE, bound(3, -1, 1), condition), [1, 5, 3], condition)
            self.assertEqual(cut(THREE_OR_MORE, ALWAYS_ONE, bound(2, -1, 1), condition), [0], condition)


if __name__ == "__main__":
    unittest.main()
