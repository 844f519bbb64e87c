"""How answers is called, and what it leaves alone."""

import contextlib
import io
import unittest

from relationsheld.bounds import answers
from tests.calling import (HELD, bound, breaking, look, numbered, parted, program, relation)

# Every call, some of them refused, thirty in all.
THIRTY = [
    *program(1, 16), *relation(0, 1, 5, 0, 1, 5), *bound(2, 0, 2), *numbered(0), *numbered(12),
    *numbered(13), *look(2, 1, 2), *look(1), *HELD, *breaking(0), *breaking(7), *breaking(8),
    *program(9), *relation(0), *bound(8, 0, 9), *HELD, *look(0), *look(9), *bound(2, 0, 37), *HELD,
    *breaking(0), *numbered(1482), *program(3, 17, 17, 17), *look(5, 1, 2, 3, 4, 5),
    *look(6, 1, 2, 3, 4, 5, 6), *relation(5, 2, 1, 0, -3, 6, 0), *look(1, 9), *look(2, 9, 8),
    *bound(1, -9, 9), *HELD,
]


class Frozen(list):
    """A list that can't be changed, not for a while either."""

    def refuse(self, *told, **named):
        raise AssertionError("what is handed in is changed")

    append = extend = insert = pop = remove = clear = sort = reverse = refuse
    __setitem__ = __delitem__ = __iadd__ = __imul__ = refuse


class Interface(unittest.TestCase):
    def test_how_many_numbers_go_before_each_answer(self):
        calls = [*program(1, 16), *relation(0, 1, 5, 0, 1, 5), *bound(2, 0, 2), *HELD, *look(1)]
        self.assertEqual(answers(calls), [1, 1, 2, 1, 1, 1, 13, 4, 5, 8, 0, 5, 1, -1])

    def test_thirty_calls(self):
        self.assertEqual(len(parted(answers(THIRTY))), 30)

    def test_refusals_are_their_number_alone(self):
        refused = [part for part in parted(answers(THIRTY)) if part[0] < 0]
        self.assertEqual(refused, [[-2], [-1], [-2], [-1], [-1], [-1], [-1], [-7], [-7]])

    def test_plain_whole_numbers_in_a_plain_list(self):
        answered = answers(THIRTY)
        self.assertIs(type(answered), list)
        self.assertEqual({type(number) for number in answered}, {int})

    def test_what_is_handed_in_is_as_it_was(self):
        calls = list(THIRTY)
        answers(calls)
        self.assertEqual(calls, THIRTY)
        self.assertEqual(answers(Frozen(THIRTY)), answers(THIRTY))

    def test_the_same_list_answers_the_same(self):
        calls = list(THIRTY)
        self.assertEqual(answers(calls), answers(calls))

    def test_nothing_is_kept_from_one_time_to_the_next(self):
        fresh = [*HELD, *numbered(0), *numbered(1), *look(2, 2, 1)]
        before = answers(fresh)
        self.assertEqual(before, [4, 1, 0, 0, -1, 1, 0, 1, -2, 7, 0, 2, 2, 1, 2, 2, 1])
        answers([*program(1, 16), *relation(0, 1, 5, 0, 1, 5), *bound(2, 0, 2)])
        self.assertEqual(answers(fresh), before)

    def test_what_is_given_back_is_ones_own(self):
        first = answers(THIRTY)
        expected = list(first)
        first.clear()
        self.assertEqual(answers(THIRTY), expected)

    def test_any_call_may_be_first(self):
        for call, expected in ((program(0), [1, 0]), (relation(0, 0, 0, 0), [2, 0, 0]),
                               (bound(0, 0, 0), [1, 1]), (numbered(0), [1, 0]), (look(0), [3, 0, 0, 0]),
                               (HELD, [4, 1, 0, 0, -1]), (breaking(0), [1, -2])):
            self.assertEqual(answers(call), expected)

    def test_empty_lists(self):
        self.assertEqual(answers([0, 0, 1, 0, 2, 0, 4, 0]), [1, -1, 1, -1, 1, -1, 1, -1])

    def test_nothing_is_printed(self):
        shown = io.StringIO()
        with contextlib.redirect_stdout(shown), contextlib.redirect_stderr(shown):
            answers(THIRTY)
        self.assertEqual(shown.getvalue(), "")


if __name__ == "__main__":
    unittest.main()
