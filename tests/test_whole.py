"""Lists that aren't whole are refused with -1 and change nothing."""

import unittest

from tests.calling import (ADD, FAR, HELD, REVERSE, SUMS, TWICE, against, ask, bound, breaking, look,
                           look_at, numbered, program, relation, shrink)

# A state unlike the one at the beginning, and what shows all of it.
TOLD = (program(2, SUMS, ADD, 5), relation(1, 1, REVERSE, 3, 1, ADD, 2), bound(2, -1, 2))
SHOWN = (look_at([1, 2]), look_at([2, -1, 3]), look_at([]), HELD, numbered(20), breaking(1))

STEPS_ALONE = (3, 4, 5, 10, 11, 12, 13, 14, 15, 16, 17)
ENDS = {0: (-99, 99), 1: (-99, 99), 2: (1, 9), 6: (0, 9), 7: (0, 9), 8: (0, 9), 9: (-99, 99)}

NOT_PROGRAMS = [
    [], [1], [2, 4], [3, 4, 5], [1, 0], [1, 6], [2, 4, 0], [0, 0], [0, 4], [1, 4, 4], [1, 0, 5, 5],
    [-1], [9] + 9 * [4], [9], [FAR], [-FAR], [1, 18], [1, -1], [1, 18, 0], [1, FAR], [1, -FAR],
    [1, 0, FAR], [1, 0, -FAR], [8] + 7 * [4], [8] + 9 * [4], [8] + 8 * [0, 1] + [0], [30] + 29 * [4],
    30 * [0], 30 * [FAR], [2, 4, 18], [8] + 7 * [0, 1] + [0], [8] + 7 * [0, 1] + [0, 100],
]

NOT_RELATIONS = [
    [], [0], [0, 0], [0, 0, 0], [0, 0, 0, 0, 0], [6, 0, 0, 0], [-1, 0, 0, 0], [FAR, 0, 0, 0],
    [-FAR, 0, 0, 0], [0, 0, 7, 0], [0, 0, -1, 0], [0, 0, FAR, 0], [0, 0, -FAR, 0], [5], [5, 1],
    [5, 0, 0, 0], [5, 10, 0, 0, 0], [5, -1, 0, 0, 0], [5, FAR, 0, 0, 0], [5, -FAR, 0, 0, 0],
    [5, 1, 0, 0, 0, 0], [0, 9] + 9 * [4] + [0, 0], [0, 0, 0, 9] + 9 * [4], [0, -1, 0, 0],
    [0, 0, 0, -1], [0, 0, 0, 1], [0, 0, 0, 1, 18], [0, 1, 18, 0, 0], [0, 1, 0, 100, 0, 0],
    [0, 0, 0, 1, 0, 100], [0, 1, 0, 0, 0], [0, FAR, 0, 0], [0, 0, 0, FAR], [0, 1, 5, 0, 1, 5, 5],
    [0, 1, 5, 0, 1], [1, 0, 0, 0, 0], 60 * [0], 60 * [FAR], 60 * [-FAR],
]

NOT_BOUNDS = [
    [], [1], [1, 0], [1, 0, 1, 0], [0, 0, 0, 0], [-1, 0, 0], [9, 0, 0], [FAR, 0, 0], [-FAR, 0, 0],
    [1, 1, 0], [1, 99, -99], [0, 1, 0], [1, -100, 0], [1, 0, 100], [0, -100, -100], [0, 100, 100],
    [1, -FAR, 0], [1, 0, FAR], [1, FAR, FAR], [1, -FAR, FAR], [2, 0, 38], [4, 0, 5], [8, 0, 2],
    [8, -99, 99], 10 * [0], 10 * [FAR],
]

NOT_ROWS = [
    [], [1], [2, 5], [0, 0], [1, 5, 5], [-1], [-1, 5], [9] + 9 * [1], [9], [FAR], [-FAR], [1, 100],
    [1, -100], [1, FAR], [1, -FAR], [2, 0, 100], [8] + 7 * [1], [8] + 9 * [1], [8] + 7 * [1] + [100],
    [19] + 19 * [0], 20 * [0], 20 * [FAR], [3, 1, 2], [1, 2, 3],
]


class Refused(unittest.TestCase):
    def check(self, call, wrong):
        expected = ask(*TOLD, *SHOWN)
        for told in wrong:
            answered = ask(*TOLD, call(*told), *SHOWN)
            self.assertEqual(answered[3], [-1], told)
            self.assertEqual(answered[:3] + answered[4:], expected, told)
            self.assertEqual(ask(call(*told)), [[-1]], told)

    def test_what_is_shown(self):
        self.assertEqual(ask(*TOLD, *SHOWN), [
            [2], [1, 1], [21],
            # sums of 2 1 and of 1 2, 5 more, the right one 2 more again.
            [0, 2, 7, 8, 2, 8, 10],
            # sums of 3 -1 2 and of 2 -1 3: 8 7 9 beside 9 8 11.
            [0, 3, 8, 7, 9, 3, 9, 8, 11],
            [2],
            # Broken where the second number is 3 more than the first one: just -1 2.
            [19, 1, 1, 8],
            [2, 2, 2],
            [-2],
        ])

    def test_programs(self):
        self.check(program, NOT_PROGRAMS)

    def test_relations(self):
        self.check(relation, NOT_RELATIONS)

    def test_bounds(self):
        self.check(bound, NOT_BOUNDS)

    def test_rows(self):
        self.check(look, NOT_ROWS)

    def test_rows_to_be_made_smaller(self):
        self.check(shrink, NOT_ROWS)

    def test_relations_against_the_own_one(self):
        self.check(against, NOT_RELATIONS)


class NumbersOfSteps(unittest.TestCase):
    def test_ends(self):
        for step, (lowest, highest) in ENDS.items():
            for number in (lowest, highest):
                self.assertEqual(ask(program(1, step, number)), [[1]], (step, number))
                told = (0, 1, step, number, 0, 1, step, number)
                self.assertEqual(ask(relation(*told)), [[1, 1]], told)
            for number in (lowest - 1, highest + 1, FAR, -FAR):
                self.assertEqual(ask(program(1, step, number)), [[-1]], (step, number))
                self.assertEqual(ask(relation(0, 1, step, number, 0, 0)), [[-1]], (step, number))
                self.assertEqual(ask(relation(0, 0, 0, 1, step, number)), [[-1]], (step, number))
            self.assertEqual(ask(program(1, step)), [[-1]], step)

    def test_steps_without_number(self):
        for step in STEPS_ALONE:
            self.assertEqual(ask(program(1, step)), [[1]], step)
            self.assertEqual(ask(program(1, step, 0)), [[-1]], step)


class Whole(unittest.TestCase):
    def test_programs(self):
        self.assertEqual(ask(program(0)), [[0]])
        self.assertEqual(ask(program(8, *(8 * [ADD, -99]))), [[8]])
        self.assertEqual(ask(program(8, *(8 * [TWICE]))), [[8]])

    def test_relations(self):
        for condition in ((0,), (1,), (2,), (3,), (4,), (5, 0), (5, 9)):
            for way in range(7):
                self.assertEqual(ask(relation(*condition, 0, way, 0)), [[0, 0]], (condition, way))
        self.assertEqual(ask(relation(0, 2, 4, 5, 0, 3, 4, 5, 4)), [[2, 3]])
        self.assertEqual(ask(relation(5, 9, 8, *(8 * [0, 9]), 6, 8, *(8 * [0, 9]))), [[8, 8]])

    def test_relations_against_the_own_one(self):
        for condition in ((0,), (1,), (2,), (3,), (4,), (5, 0), (5, 9)):
            for way in range(7):
                kept = 0 if condition in ((1,), (5, 9)) else 1
                self.assertEqual(ask(against(*condition, 0, way, 0)), [[kept, 0, 0, 0]], (condition, way))
        self.assertEqual(ask(against(5, 0, 8, *(8 * [0, 9]), 6, 8, *(8 * [0, 9]))), [[1, 0, 0, 0]])

    def test_rows(self):
        self.assertEqual(ask(look(0)), [[0, 0, 0]])
        self.assertEqual(ask(look(2, 99, -99)), [[0, 2, 99, -99, 2, 99, -99]])
        self.assertEqual(ask(look(1, 2)), [[0, 1, 2, 1, 2]])

    def test_the_newest_one_counts(self):
        calls = (program(1, ADD, 1), look(1, 0), program(0), look(1, 0),
                 relation(0, 1, ADD, 1, 0, 0), look(1, 0), relation(0, 0, 0, 0), look(1, 0),
                 bound(1, 3, 4), numbered(2), bound(1, 5, 5), numbered(1), numbered(2))
        self.assertEqual(ask(*calls), [[1], [0, 1, 1, 1, 1], [0], [0, 1, 0, 1, 0],
                                       [1, 0], [1, 1, 1, 1, 0], [0, 0], [0, 1, 0, 1, 0],
                                       [3], [1, 4], [2], [1, 5], [-2]])


if __name__ == "__main__":
    unittest.main()
