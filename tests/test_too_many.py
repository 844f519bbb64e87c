"""The calls that go through all inputs, at bounds with more than 300 of them and with just fewer."""

import unittest

from tests.calling import (CONDS, CUT, HELD, REVERSE, SLACK, STAND, against, ask, bound, breaking, last, numbered,
                           relation, shrink)

GOING_THROUGH = (HELD, breaking(0), STAND, CONDS, CUT, SLACK, against(0, 0, 0, 0))

# 307, 341, 364 and 1483 inputs.
ABOVE = ((2, 0, 16), (4, 0, 3), (5, -1, 1), (2, 0, 37))
TURNED = relation(0, 1, REVERSE, 0, 0)


class TooMany(unittest.TestCase):
    def test_refused(self):
        for told in ABOVE:
            for call in GOING_THROUGH:
                self.assertEqual(last(bound(*told), call), [-7], (told, call))

    def test_refused_where_nothing_is_broken_or_all_is_off(self):
        for own in (relation(0, 0, 0, 0), relation(5, 9, 0, 0, 0), TURNED):
            for call in GOING_THROUGH:
                self.assertEqual(last(own, bound(2, 0, 16), call), [-7], (own, call))

    def test_the_answers_just_below(self):
        # 273 inputs: the row without numbers, 16 numbers alone, 16 pairs of like ones, 240 others.
        calls = (TURNED, bound(2, 0, 15), HELD, STAND, CONDS, CUT, SLACK, against(0, 1, REVERSE, 1, 0))
        self.assertEqual(ask(*calls)[1:], [
            [273], [33, 240, 0, 18], [3, 1, 2, 6, 1, 1],
            [33, 240, 32, 240, 33, 120, 33, 240, 17, 240, 16, 240, 0, 0], [0], [1, -15, 15], [33, 0, 240, 0]])

    def test_the_answers_at_other_bounds_below(self):
        # 259 and 255 inputs.
        for told, many in (((3, -1, 4), 259), ((7, 0, 1), 255)):
            calls = (bound(*told), HELD, STAND, CUT, SLACK, against(0, 0, 0, 0))
            self.assertEqual(ask(*calls), [[many], [many, 0, 0, -1], [7, 0, 1, 2, 3, 4, 5, 6, 1, 0], [1, 0],
                                           [1, 0, 0], [many, 0, 0, 0]])

    def test_the_other_calls_are_not_refused(self):
        calls = (TURNED, bound(2, 0, 37), shrink(2, 0, 9), numbered(40), bound(1, 0, 0), STAND)
        self.assertEqual(ask(*calls)[1:], [[1483], [2, 0, 1], [2, 0, 1], [2], [7, 0, 1, 2, 3, 4, 5, 6, 1, 0]])


if __name__ == "__main__":
    unittest.main()
