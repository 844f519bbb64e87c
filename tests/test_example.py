"""The numbers that the document's example gives."""

import unittest

from tests.calling import HELD, ask, bound, breaking, look, program, relation

RUNNING = (program(1, 16), relation(0, 1, 5, 0, 1, 5), bound(2, 0, 2))


class Example(unittest.TestCase):
    def test_program_relation_bound(self):
        self.assertEqual(ask(*RUNNING), [[1], [1, 1], [13]])

    def test_held(self):
        self.assertEqual(ask(*RUNNING, HELD)[-1], [5, 8, 0, 5])

    def test_breaking(self):
        self.assertEqual(ask(*RUNNING, breaking(0))[-1], [5, 2, 0, 1, 1, 2, 1, 1, 2, 1, 0])

    def test_held_by_the_first_two_of_a_sorted_row(self):
        calls = (*RUNNING, program(2, 4, 7, 2), relation(0, 1, 5, 0, 0), HELD)
        self.assertEqual(ask(*calls)[3:], [[2], [1, 0], [13, 0, 0, -1]])

    def test_look(self):
        calls = (program(3, 1, 99, 1, 99, 1, 99), look(1, 2), look(1, 1))
        self.assertEqual(ask(*calls), [[3], [2], [0, 1, 970299, 1, 970299]])


if __name__ == "__main__":
    unittest.main()
