"""held and breaking."""

import unittest

from tests.calling import (ADD, FAR, HELD, REVERSE, SUMS, TAKE, TIMES, ask, bound, breaking, last,
                           look_at, numbered, program, relation)

RUNNING = (program(1, SUMS), relation(0, 1, REVERSE, 0, 1, REVERSE), bound(2, 0, 2))


class Held(unittest.TestCase):
    def test_at_the_beginning(self):
        self.assertEqual(ask(HELD, breaking(0)), [[1, 0, 0, -1], [-2]])

    def test_nothing_broken(self):
        self.assertEqual(last(bound(3, -2, 2), HELD), [156, 0, 0, -1])

    def test_all_broken(self):
        self.assertEqual(last(relation(0, 1, TAKE, 0, 4, 0), bound(2, 0, 1), HELD), [1, 6, 0, 1])
        self.assertEqual(last(program(1, 14), relation(0, 0, 0, 1, ADD, 1), bound(2, 0, 1), HELD),
                         [0, 7, 0, 0])

    def test_all_off(self):
        calls = (relation(5, 3, 0, 0, 0), bound(2, 0, 1), HELD, breaking(0))
        self.assertEqual(ask(*calls)[2:], [[0, 0, 7, -1], [-2]])

    def test_some_off_by_the_condition(self):
        self.assertEqual(last(relation(1, 0, 0, 0), bound(2, 0, 2), HELD), [12, 0, 1, -1])
        # Rising: the row without numbers, 0, 1, 0 0, 0 1, 1 1; of these 0 1 is broken turned round.
        self.assertEqual(last(relation(2, 1, REVERSE, 0, 0), bound(2, 0, 1), HELD), [5, 1, 1, 4])

    def test_some_off_as_beyond(self):
        # Of -2 to 2, -2 and 2 are beyond; -1 and 1 have another sign when turned.
        calls = (program(3, TIMES, 99, TIMES, 99, TIMES, 99), relation(0, 1, TIMES, -1, 0, 0),
                 bound(1, -2, 2), HELD)
        self.assertEqual(last(*calls), [2, 2, 2, 2])

    def test_kept_and_broken_and_off(self):
        self.assertEqual(last(*RUNNING, HELD), [5, 8, 0, 5])
        # Off at the row without numbers; off at 1 0, 2 0 and 2 1.
        for condition, expected in ((1, [4, 8, 1, 5]), (2, [5, 5, 3, 5])):
            told = relation(condition, 1, REVERSE, 0, 1, REVERSE)
            self.assertEqual(last(*RUNNING, told, HELD), expected)


class Breaking(unittest.TestCase):
    def test_each_one(self):
        # Sums differ unless both numbers are 0: inputs 5 to 12 are 0 1, 0 2, 1 0 and so on.
        numbers = [5, 6, 7, 8, 9, 10, 11, 12]
        for n, number in enumerate(numbers):
            row = last(RUNNING[2], numbered(number))
            seen = last(*RUNNING[:2], look_at(row[1:]))
            self.assertEqual(seen[0], 1)
            self.assertEqual(last(*RUNNING, breaking(n)), [number, *row, *seen])

    def test_first_and_last(self):
        self.assertEqual(last(*RUNNING, breaking(0)), [5, 2, 0, 1, 1, 2, 1, 1, 2, 1, 0])
        # 2 2: sums of it turned round are 2 4, its own ones turned round 4 2.
        self.assertEqual(last(*RUNNING, breaking(7)), [12, 2, 2, 2, 1, 2, 2, 4, 2, 4, 2])

    def test_just_outside_and_far_out(self):
        calls = (*RUNNING, breaking(8), breaking(-1), breaking(-8), breaking(FAR), breaking(-FAR))
        self.assertEqual(ask(*calls)[3:], 5 * [[-2]])

    def test_none_broken(self):
        self.assertEqual(ask(bound(1, 0, 3), breaking(0), breaking(-1))[1:], [[-2], [-2]])

    def test_off_ones_are_not_among_them(self):
        # With two numbers or more only those inputs are left that have two.
        told = (relation(5, 2, 1, ADD, 1, 0, 0), bound(2, 0, 1))
        calls = (*told, HELD, breaking(0), breaking(3), breaking(4))
        self.assertEqual(ask(*calls)[2:], [[0, 4, 3, 3], [3, 2, 0, 0, 1, 2, 1, 1, 2, 0, 0],
                                           [6, 2, 1, 1, 1, 2, 2, 2, 2, 1, 1], [-2]])

    def test_the_input_numbered_nought(self):
        # The sum of none is 0, and 1 more on the right side alone.
        calls = (program(1, 11), relation(0, 0, 0, 1, ADD, 1), breaking(0), breaking(1))
        self.assertEqual(ask(*calls)[2:], [[0, 0, 1, 1, 0, 1, 1], [-2]])

    def test_changes_nothing(self):
        calls = (*RUNNING, HELD, breaking(3), breaking(99), look_at([0, 1]), numbered(4), HELD)
        answered = ask(*calls)
        self.assertEqual(answered[3], answered[-1])


class TooMany(unittest.TestCase):
    def test_refused_ahead_of_the_number(self):
        for told in ((2, 0, 16), (4, 0, 3), (2, 0, 37)):
            for n in (0, -1, FAR, -FAR):
                self.assertEqual(last(bound(*told), breaking(n)), [-7])
            self.assertEqual(last(bound(*told), HELD), [-7])

    def test_the_other_calls_are_not_refused(self):
        calls = (bound(2, 0, 37), HELD, numbered(1482), look_at([5]), bound(1, 0, 0), HELD)
        self.assertEqual(ask(*calls), [[1483], [-7], [2, 37, 37], [0, 1, 5, 1, 5], [2], [2, 0, 0, -1]])

    def test_many_of_them_broken(self):
        calls = (relation(0, 1, ADD, 1, 0, 0), bound(2, 0, 15), HELD, breaking(271), breaking(272))
        self.assertEqual(ask(*calls)[2:], [[1, 272, 0, 1], [272, 2, 15, 15, 1, 2, 16, 16, 2, 15, 15], [-2]])


if __name__ == "__main__":
    unittest.main()
