"""against: another relation beside the object's own one."""

import unittest

from tests.calling import (COUNT, HELD, ONCE, REVERSE, SORT, SUMS, TAKE, TIMES, against, ask, bound, last, look_at,
                           program, relation)

# Kept where the row is the same turned round; kept where it's rising.
ROUND = (1, REVERSE, 0, 0)
RISING = (1, SORT, 0, 0)
SMALL = bound(3, 0, 1)


class Against(unittest.TestCase):
    def check(self, own, other, expected, told_bound=SMALL):
        self.assertEqual(last(relation(*own), told_bound, against(*other)), expected, (own, other))

    def test_each_of_the_four(self):
        # Kept by both: the row without numbers, 0, 1, 0 0, 1 1, 0 0 0, 1 1 1; turned round alone
        # 0 1 0, 1 0 1; rising alone 0 1, 0 0 1, 0 1 1; by none 1 0, 1 0 0, 1 1 0.
        self.check((0, *ROUND), (0, *RISING), [7, 2, 3, 3])
        self.check((0, *RISING), (0, *ROUND), [7, 3, 2, 3])

    def test_itself(self):
        self.check((0, *ROUND), (0, *ROUND), [9, 0, 0, 6])

    def test_at_the_beginning(self):
        self.assertEqual(last(against(0, 0, 0, 0)), [1, 0, 0, 0])
        self.assertEqual(last(SMALL, against(0, *RISING)), [10, 5, 0, 0])

    def test_inputs_at_which_either_one_is_off_count_nowhere(self):
        self.check((1, *ROUND), (0, *RISING), [6, 2, 3, 3])
        self.check((0, *ROUND), (4, *RISING), [3, 0, 1, 1])
        self.check((4, *ROUND), (0, *RISING), [3, 0, 1, 1])
        self.check((1, *ROUND), (4, *RISING), [2, 0, 1, 1])
        self.check((5, 3, *ROUND), (5, 2, *RISING), [2, 2, 2, 2])
        self.check((5, 4, *ROUND), (0, *RISING), [0, 0, 0, 0])
        self.check((0, *ROUND), (5, 4, *RISING), [0, 0, 0, 0])

    def test_off_as_beyond(self):
        cubed = (0, 3, TIMES, 99, TIMES, 99, TIMES, 99, 0, 0)
        self.check((0, 0, 0, 0), cubed, [2, 2, 0, 0], bound(1, -2, 2))
        self.check(cubed, (0, 0, 0, 0), [2, 0, 2, 0], bound(1, -2, 2))

    def test_the_other_ones_way_and_turnings(self):
        self.check((0, *ROUND), (0, 1, REVERSE, 1, 0), [9, 0, 6, 0])
        # The other one is kept where all numbers are alike: at those turned round, but 0 1 0 and 1 0 1.
        self.check((0, *ROUND), (0, 1, ONCE, 0, 1, TAKE, 1), [7, 2, 0, 6])

    def test_both_by_the_objects_program(self):
        calls = (program(1, COUNT), relation(0, *ROUND), SMALL, against(0, 1, ONCE, 0, 0))
        # Five rows have no number twice; how many there are is the same turned round.
        self.assertEqual(last(*calls), [5, 10, 0, 0])

    def test_the_objects_own_relation_stays(self):
        shown = (HELD, look_at([0, 1]), against(0, *RISING))
        calls = (program(1, SUMS), relation(0, 1, REVERSE, 0, 1, REVERSE), SMALL)
        expected = ask(*calls, *shown)[3:]
        for told in ((0, *RISING), (5, 9, 0, 6, 0), (0, 1, SUMS, 3, 1, SUMS), (9,), ()):
            self.assertEqual(ask(*calls, against(*told), *shown)[4:], expected, told)


class Refused(unittest.TestCase):
    def test_not_whole_ahead_of_too_many(self):
        for told in ([], [0], [0, 0, 0], [0, 0, 0, 0, 0], [6, 0, 0, 0], [0, 0, 7, 0], [5, 0, 0, 0], 60 * [0]):
            self.assertEqual(last(against(*told)), [-1], told)
            self.assertEqual(last(bound(2, 0, 16), against(*told)), [-1], told)

    def test_too_many(self):
        self.assertEqual(last(bound(2, 0, 16), against(0, 0, 0, 0)), [-7])


if __name__ == "__main__":
    unittest.main()
