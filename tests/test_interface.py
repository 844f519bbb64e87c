"""How answers is called, and what it leaves alone."""

import contextlib
import io
import unittest

from relationsheld.bounds import answers
from tests.calling import (CONDS, CUT, HELD, SLACK, STAND, against, bound, breaking, look, numbered, parted, program,
                           relation, shrink)

# The calls 0 to 6, some of them refused, thirty in all.
EARLY = [
    *program(1, 16), *relation(0, 1, 5, 0, 1, 5), *bound(2, 0, 2), *numbered(0), *numbered(12),
    *numbered(13), *look(2, 1, 2), *look(1), *HELD, *breaking(0), *breaking(7), *breaking(8),
    *program(9), *relation(0), *bound(8, 0, 9), *HELD, *look(0), *look(9), *bound(2, 0, 37), *HELD,
    *breaking(0), *numbered(1482), *program(3, 17, 17, 17), *look(5, 1, 2, 3, 4, 5),
    *look(6, 1, 2, 3, 4, 5, 6), *relation(5, 2, 1, 0, -3, 6, 0), *look(1, 9), *look(2, 9, 8),
    *bound(1, -9, 9), *HELD,
]

# Every call, some of them refused, thirty in all.
LATE = [
    *STAND, *CONDS, *CUT, *SLACK, *shrink(0), *against(0, 0, 0, 0), *program(1, 16), *relation(0, 1, 5, 0, 1, 5),
    *bound(2, 0, 2), *HELD, *STAND, *CONDS, *CUT, *SLACK, *shrink(2, 7, -5), *shrink(1), *shrink(1, 0),
    *against(0, 1, 5, 6, 1, 5), *against(0), *breaking(7), *look(2, 1, 2), *numbered(12), *bound(2, 0, 37), *STAND,
    *CONDS, *CUT, *SLACK, *against(0, 0, 0, 0), *against(), *shrink(8, 99, -99, 99, -99, 99, -99, 99, -99),
]
THIRTIES = (EARLY, LATE)


class Frozen(list):
    """A list that can't be changed, not for a while either."""

    def refuse(self, *told, **named):
        raise AssertionError("what is handed in is changed")

    append = extend = insert = pop = remove = clear = sort = reverse = refuse
    __setitem__ = __delitem__ = __iadd__ = __imul__ = refuse


class Interface(unittest.TestCase):
    def test_how_many_numbers_go_before_each_answer(self):
        calls = [*program(1, 16), *relation(0, 1, 5, 0, 1, 5), *bound(2, 0, 2), *HELD, *look(1)]
        self.assertEqual(answers(calls), [1, 1, 2, 1, 1, 1, 13, 4, 5, 8, 0, 5, 1, -1])

    def test_thirty_calls(self):
        for calls in THIRTIES:
            self.assertEqual(len(parted(answers(calls))), 30)

    def test_thirty_of_the_longest_calls(self):
        # The longest list there may be: 1860 numbers.
        calls = 30 * [12, 60, *(60 * [10 ** 18])]
        self.assertEqual(len(calls), 1860)
        self.assertEqual(answers(calls), 30 * [1, -1])

    def test_thirty_calls_that_go_through_all_inputs(self):
        told = [*program(8, *(8 * [16])), *relation(0, 8, *(8 * [4]), 1, 8, *(8 * [5])), *bound(2, 0, 15)]
        for call in (STAND, CONDS, CUT, SLACK, against(0, 8, *(8 * [4]), 1, 8, *(8 * [5]))):
            answered = parted(answers(told + 27 * call))
            self.assertEqual(answered[3:], 27 * [answered[3]])

    def test_refusals_are_their_number_alone(self):
        for calls, expected in ((EARLY, [[-2], [-1], [-2], [-1], [-1], [-1], [-1], [-7], [-7]]),
                                (LATE, [[-4], [-1], [-4], [-1], [-7], [-7], [-7], [-7], [-7], [-1]])):
            self.assertEqual([part for part in parted(answers(calls)) if part[0] < 0], expected)

    def test_plain_whole_numbers_in_a_plain_list(self):
        for calls in THIRTIES:
            answered = answers(calls)
            self.assertIs(type(answered), list)
            self.assertEqual({type(number) for number in answered}, {int})

    def test_what_is_handed_in_is_as_it_was(self):
        for thirty in THIRTIES:
            calls = list(thirty)
            answers(calls)
            self.assertEqual(calls, thirty)
            self.assertEqual(answers(Frozen(thirty)), answers(thirty))

    def test_the_same_list_answers_the_same(self):
        for thirty in THIRTIES:
            calls = list(thirty)
            self.assertEqual(answers(calls), answers(calls))

    def test_nothing_is_kept_from_one_time_to_the_next(self):
        fresh = [*HELD, *numbered(0), *numbered(1), *look(2, 2, 1), *CUT, *SLACK, *shrink(2, 2, 1),
                 *against(1, 0, 0, 0)]
        before = answers(fresh)
        self.assertEqual(before, [4, 1, 0, 0, -1, 1, 0, 1, -2, 7, 0, 2, 2, 1, 2, 2, 1,
                                  2, 1, 0, 1, 0, 1, -4, 4, 0, 0, 0, 0])
        for calls in THIRTIES:
            answers(calls)
            self.assertEqual(answers(fresh), before)

    def test_what_is_given_back_is_ones_own(self):
        for calls in THIRTIES:
            first = answers(calls)
            expected = list(first)
            first.clear()
            self.assertEqual(answers(calls), expected)

    def test_any_call_may_be_first(self):
        for call, expected in ((program(0), [1, 0]), (relation(0, 0, 0, 0), [2, 0, 0]),
                               (bound(0, 0, 0), [1, 1]), (numbered(0), [1, 0]), (look(0), [3, 0, 0, 0]),
                               (HELD, [4, 1, 0, 0, -1]), (breaking(0), [1, -2]),
                               (STAND, [10, 7, 0, 1, 2, 3, 4, 5, 6, 1, 0]),
                               (CONDS, [14, 1, 0, 0, 0, 1, 0, 1, 0, 1, 0, 0, 0, 0, 0]), (CUT, [2, 1, 0]),
                               (SLACK, [1, 0]), (shrink(0), [1, -4]), (against(0, 0, 0, 0), [4, 1, 0, 0, 0])):
            self.assertEqual(answers(call), expected)

    def test_empty_lists(self):
        self.assertEqual(answers([0, 0, 1, 0, 2, 0, 4, 0, 11, 0, 12, 0]), 6 * [1, -1])

    def test_nothing_is_printed(self):
        shown = io.StringIO()
        with contextlib.redirect_stdout(shown), contextlib.redirect_stderr(shown):
            for calls in THIRTIES:
                answers(calls)
        self.assertEqual(shown.getvalue(), "")


if __name__ == "__main__":
    unittest.main()
