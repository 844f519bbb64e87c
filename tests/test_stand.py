"""stand: the ways to stand that hold, and the strongest of them."""

import unittest

from tests.calling import (ABS, ADD, COUNT, DROP, HELD, ONCE, REST, REVERSE, SORT, STAND, SUMS, TAKE, TIMES,
                           TWICE, bound, last, program, relation)

SAME = (0,)
SMALL = bound(2, 0, 1)

# With three numbers or more the row 1 1 1 alone is left of this bound.
ONES = bound(3, 1, 1)
ALL_THREE = (5, 3)

EVERY_WAY = [7, 0, 1, 2, 3, 4, 5, 6, 1, 0]


def stand(before, after, told_bound=SMALL, condition=(0,), way=0):
    """Without steps the program leaves both turnings as the sides."""
    return last(relation(*condition, *before, way, *after), told_bound, STAND)


class HowMany(unittest.TestCase):
    def test_all_seven(self):
        self.assertEqual(last(STAND), EVERY_WAY)
        self.assertEqual(stand(SAME, SAME), EVERY_WAY)

    def test_none(self):
        self.assertEqual(stand(SAME, (1, DROP, 1)), [0, 0])

    def test_one(self):
        self.assertEqual(stand((1, TAKE, 1), SAME), [1, 5, 1, 5])
        self.assertEqual(stand((1, TWICE), SAME), [1, 2, 1, 2])
        # 0 0 1 with each number once: 0 1.
        self.assertEqual(stand((1, ONCE), SAME, bound(3, 0, 1)), [1, 2, 1, 2])
        self.assertEqual(last(program(1, SUMS), relation(0, 1, REVERSE, 0, 1, REVERSE), SMALL, STAND), [1, 6, 1, 6])

    def test_several_strongest_ones(self):
        # The row beside itself twice: numbers, begins.
        self.assertEqual(stand(SAME, (1, TWICE)), [2, 2, 5, 2, 2, 5])
        # 0 0 1 beside 0 1 1, and the other way round: numbers, most or least, long.
        lower = (4, SUMS, ADD, 1, REST, 2, SORT)
        higher = (3, SUMS, REST, 2, SORT)
        self.assertEqual(stand(lower, higher, ONES, ALL_THREE), [3, 2, 3, 6, 2, 2, 3])
        self.assertEqual(stand(higher, lower, ONES, ALL_THREE), [3, 2, 4, 6, 2, 2, 4])
        # 0 1 0 beside 1 0 1: numbers, long.
        self.assertEqual(stand((3, SUMS, ADD, 1, REST, 2), (2, SUMS, REST, 2), ONES, ALL_THREE), [2, 2, 6, 2, 2, 6])


class Follows(unittest.TestCase):
    def test_each_from_equal(self):
        self.assertEqual(stand((1, REVERSE), (1, REVERSE), bound(3, -1, 1)), EVERY_WAY)

    def test_numbers_and_long_from_bag(self):
        self.assertEqual(stand((1, REVERSE), SAME), [3, 1, 2, 6, 1, 1])

    def test_long_from_most(self):
        self.assertEqual(stand(SAME, (1, ADD, 1)), [2, 3, 6, 1, 3])

    def test_long_from_least(self):
        self.assertEqual(stand((1, ADD, 1), SAME), [2, 4, 6, 1, 4])


class WhatCounts(unittest.TestCase):
    def test_off_at_every_input_by_the_condition(self):
        self.assertEqual(stand(SAME, (1, DROP, 1), SMALL, (5, 3)), EVERY_WAY)

    def test_off_at_every_input_as_beyond(self):
        far = (5, COUNT, ADD, 99, TIMES, 99, TIMES, 99, TIMES, 99)
        self.assertEqual(stand(far, (1, DROP, 1)), EVERY_WAY)
        self.assertEqual(stand((1, DROP, 1), far), EVERY_WAY)
        self.assertEqual(last(program(*far), relation(0, 1, DROP, 1, 0, 0), SMALL, STAND), EVERY_WAY)

    def test_the_condition(self):
        self.assertEqual(stand((1, SORT), SAME), [3, 1, 2, 6, 1, 1])
        self.assertEqual(stand((1, SORT), SAME, condition=(2,)), EVERY_WAY)

    def test_where_a_run_is_beyond_nothing_is_broken(self):
        # Of -2 to 2 the ends are beyond; -1 has a greater one on its left side, 1 a lower one.
        cubed = (program(3, TIMES, 99, TIMES, 99, TIMES, 99), relation(0, 1, TIMES, -1, 0, 0))
        self.assertEqual(last(*cubed, bound(1, -2, 2), STAND), [1, 6, 1, 6])
        self.assertEqual(last(*cubed, bound(1, 0, 2), STAND), [2, 3, 6, 1, 3])
        self.assertEqual(last(*cubed, bound(1, 2, 2), STAND), EVERY_WAY)

    def test_the_relations_own_way_does_not(self):
        for way in range(7):
            self.assertEqual(stand((1, REVERSE), SAME, way=way), [3, 1, 2, 6, 1, 1])
            self.assertEqual(stand(SAME, (1, DROP, 1), way=way), [0, 0])

    def test_one_input_is_enough(self):
        # Only -1 has another number without its sign.
        self.assertEqual(stand((1, ABS), SAME, bound(1, -1, 9)), [2, 4, 6, 1, 4])

    def test_the_same_ways_as_held_tells(self):
        for before, after in ((SAME, SAME), ((1, REVERSE), SAME), ((1, TAKE, 1), SAME), (SAME, (1, TWICE)),
                              ((1, ABS), (1, SORT)), ((1, ADD, 1), (1, SORT)), ((1, ONCE), SAME)):
            for condition in ((0,), (1,), (2,), (3,), (4,), (5, 2)):
                held = [last(relation(*condition, *before, way, *after), bound(3, -1, 1), HELD) for way in range(7)]
                ways = [way for way in range(7) if held[way][1] == 0]
                seen = stand(before, after, bound(3, -1, 1), condition)
                self.assertEqual(seen[:1 + seen[0]], [len(ways), *ways], (before, after, condition))


if __name__ == "__main__":
    unittest.main()
