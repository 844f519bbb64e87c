"""Only program, relation and bound change the object; the other calls leave it as it was."""

import unittest

from relationsheld.bounds import answers
from tests.calling import (ADD, CONDS, CUT, FAR, HELD, REVERSE, SLACK, STAND, SUMS, against, ask, bound, breaking,
                           look, look_at, numbered, program, relation, shrink)

OWN = (program(2, SUMS, ADD, 5), relation(1, 1, REVERSE, 3, 1, ADD, 2))
STATES = ((), (*OWN, bound(2, -1, 2)), (*OWN, bound(2, 0, 37)), (*OWN, relation(5, 2, 1, SUMS, 0, 0), bound(3, 0, 2)))

SHOWN = (look_at([1, 2]), look_at([2, -1, 3]), look_at([]), HELD, numbered(0), numbered(20), breaking(1), STAND,
         CONDS, CUT, SLACK, shrink(2, -1, 2), shrink(3, -4, 9, 7), against(0, 0, 6, 0))

ASKING = (
    numbered(0), numbered(5), numbered(-1), numbered(FAR), look(0), look(2, 1, 2), look(1), look(2, 1, 100), HELD,
    breaking(0), breaking(1), breaking(-1), breaking(FAR), STAND, CONDS, CUT, SLACK,
    shrink(0), shrink(1, 0), shrink(2, -1, 2), shrink(3, -4, 9, 7), shrink(), shrink(2, 1), shrink(1, 100),
    against(0, 0, 0, 0), against(5, 1, 1, REVERSE, 1, 2, SUMS, REVERSE), against(), against(0), against(6, 0, 0, 0),
)


class Unchanged(unittest.TestCase):
    def test_the_object(self):
        for told in STATES:
            expected = ask(*told, *SHOWN)[len(told):]
            for call in ASKING:
                self.assertEqual(ask(*told, call, *SHOWN)[len(told) + 1:], expected, (told, call))

    def test_what_is_shown_differs_from_state_to_state(self):
        shown = [ask(*told, *SHOWN)[len(told):] for told in STATES]
        for place in range(len(SHOWN)):
            if SHOWN[place] not in (numbered(0), look_at([])):
                self.assertGreater(len({tuple(part[place]) for part in shown}), 1, SHOWN[place])

    def test_the_calls_asked_are_refused_in_each_way(self):
        answered = [ask(*told, call)[-1] for told in STATES for call in ASKING]
        for refusal in (-1, -2, -4, -7):
            self.assertIn([refusal], answered)

    def test_the_list_handed_in(self):
        for told in STATES:
            for call in ASKING:
                calls = [number for part in (*told, call) for number in part]
                before = list(calls)
                answers(calls)
                self.assertEqual(calls, before, (told, call))


if __name__ == "__main__":
    unittest.main()
