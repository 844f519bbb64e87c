"""Bounds and the inputs' numbers."""

import itertools
import unittest

from tests.calling import FAR, HELD, ask, bound, breaking, last, numbered


def all_rows(length, lowest, highest):
    """Each input in order, found by going through all rows of each length."""
    values = range(lowest, highest + 1)
    return [list(row) for many in range(length + 1) for row in itertools.product(values, repeat=many)]


class HowMany(unittest.TestCase):
    def test_how_many(self):
        for told, expected in (((0, 0, 0), 1), ((0, -99, 99), 1), ((1, 7, 7), 2), ((1, -99, 99), 200),
                               ((2, 0, 2), 13), ((8, 5, 5), 9), ((8, 0, 1), 511), ((5, -2, 1), 1365),
                               ((8, -99, -99), 9), ((8, 99, 99), 9)):
            self.assertEqual(ask(bound(*told)), [[expected]], told)

    def test_fifteen_hundred(self):
        # No bound has 1500 or 1501 inputs: these are the nearest on both sides.
        self.assertEqual(ask(bound(2, 0, 37)), [[1483]])
        self.assertEqual(ask(bound(3, -5, 5)), [[1464]])
        self.assertEqual(ask(bound(4, 0, 5)), [[-1]])
        self.assertEqual(ask(bound(2, 0, 38)), [[-1]])
        self.assertEqual(ask(bound(8, -99, 99)), [[-1]])

    def test_three_hundred(self):
        # No bound has 300 or 301 inputs: these are the nearest on both sides.
        for told, many in (((2, 0, 15), 273), ((3, 0, 5), 259), ((7, 0, 1), 255)):
            self.assertEqual(ask(bound(*told), HELD), [[many], [many, 0, 0, -1]])
            self.assertEqual(last(bound(*told), breaking(0)), [-2])
        for told, many in (((2, 0, 16), 307), ((4, 0, 3), 341), ((2, 0, 37), 1483)):
            self.assertEqual(ask(bound(*told), HELD, breaking(0)), [[many], [-7], [-7]])


class Numbered(unittest.TestCase):
    def test_order(self):
        calls = [bound(2, 0, 1)] + [numbered(k) for k in range(7)]
        self.assertEqual(ask(*calls)[1:], [[0], [1, 0], [1, 1], [2, 0, 0], [2, 0, 1], [2, 1, 0], [2, 1, 1]])

    def test_all_inputs_of_some_bounds(self):
        for told in ((0, -3, 3), (1, -2, 4), (3, -1, 1), (2, -9, -6), (8, 4, 4), (6, 0, 1)):
            rows = all_rows(*told)
            self.assertEqual(last(bound(*told)), [len(rows)])
            for k, row in enumerate(rows):
                self.assertEqual(last(bound(*told), numbered(k)), [len(row), *row], (told, k))

    def test_first_and_last_and_just_outside(self):
        for told, many, row in (((2, 0, 37), 1483, [37, 37]), ((1, -99, 99), 200, [99]),
                                ((8, -1, 0), 511, 8 * [0]), ((0, 5, 6), 1, [])):
            calls = (bound(*told), numbered(0), numbered(many - 1), numbered(many), numbered(-1))
            self.assertEqual(ask(*calls), [[many], [0], [len(row), *row], [-2], [-2]], told)

    def test_at_the_beginning(self):
        calls = [numbered(k) for k in (0, 1, -1, FAR, -FAR)]
        self.assertEqual(ask(*calls), [[0], [-2], [-2], [-2], [-2]])

    def test_far_out(self):
        self.assertEqual(ask(bound(3, 0, 9), numbered(FAR), numbered(-FAR)), [[1111], [-2], [-2]])


if __name__ == "__main__":
    unittest.main()
