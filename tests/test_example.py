"""The numbers that the document's example gives."""

import unittest

from tests.calling import (CONDS, CUT, HELD, SLACK, STAND, against, ask, bound, breaking, last, look,
                           program, relation, shrink)

RUNNING = (program(1, 16), relation(0, 1, 5, 0, 1, 5), bound(2, 0, 2))


class Example(unittest.TestCase):
    def test_program_relation_bound(self):
        self.assertEqual(ask(*RUNNING), [[1], [1, 1], [13]])

    def test_held(self):
        self.assertEqual(ask(*RUNNING, HELD)[-1], [5, 8, 0, 5])

    def test_breaking(self):
        self.assertEqual(ask(*RUNNING, breaking(0))[-1], [5, 2, 0, 1, 1, 2, 1, 1, 2, 1, 0])

    def test_stand(self):
        self.assertEqual(last(*RUNNING, STAND), [1, 6, 1, 6])

    def test_conds(self):
        self.assertEqual(last(*RUNNING, CONDS), [5, 8, 4, 8, 5, 5, 5, 8, 4, 6, 1, 8, 0, 0])

    def test_cut(self):
        self.assertEqual(last(*RUNNING, CUT), [0])

    def test_slack(self):
        self.assertEqual(last(*RUNNING, SLACK), [1, -2, 2])

    def test_shrink(self):
        self.assertEqual(last(*RUNNING, shrink(2, 7, -5)), [2, 0, -1])

    def test_against(self):
        self.assertEqual(last(*RUNNING, against(0, 1, 5, 6, 1, 5)), [5, 0, 8, 0])

    def test_held_by_the_first_two_of_a_sorted_row(self):
        calls = (*RUNNING, program(2, 4, 7, 2), relation(0, 1, 5, 0, 0), HELD)
        self.assertEqual(ask(*calls)[3:], [[2], [1, 0], [13, 0, 0, -1]])

    def test_look(self):
        calls = (program(3, 1, 99, 1, 99, 1, 99), look(1, 2), look(1, 1))
        self.assertEqual(ask(*calls), [[3], [2], [0, 1, 970299, 1, 970299]])

    def test_all_of_it_in_one_list(self):
        calls = (*RUNNING, HELD, breaking(0), STAND, CONDS, CUT, SLACK, shrink(2, 7, -5),
                 against(0, 1, 5, 6, 1, 5), program(2, 4, 7, 2), relation(0, 1, 5, 0, 0), HELD,
                 program(3, 1, 99, 1, 99, 1, 99), relation(0, 0, 0, 0), look(1, 2), look(1, 1))
        self.assertEqual(ask(*calls), [
            [1], [1, 1], [13], [5, 8, 0, 5], [5, 2, 0, 1, 1, 2, 1, 1, 2, 1, 0], [1, 6, 1, 6],
            [5, 8, 4, 8, 5, 5, 5, 8, 4, 6, 1, 8, 0, 0], [0], [1, -2, 2], [2, 0, -1], [5, 0, 8, 0],
            [2], [1, 0], [13, 0, 0, -1], [3], [0, 0], [2], [0, 1, 970299, 1, 970299]])


if __name__ == "__main__":
    unittest.main()
