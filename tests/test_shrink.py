"""shrink: a breaking row made smaller."""

import unittest

from tests.calling import (ABOVE, ADD, DROP, REST, REVERSE, SUM, SUMS, TIMES, ask, bound, last, look_at, program,
                           relation, shrink, shrink_row)


def broken_where(*steps, condition=(0,)):
    """A relation that's broken where something comes of these steps: there's one more on the left side."""
    flat = [number for step in steps for number in step]
    return relation(*condition, len(steps), *flat, 0, len(steps) + 1, *flat, DROP, 1)


SUM_ABOVE_NINE = ((SUM,), (ABOVE, 9))
TWO_ABOVE_FIFTY = ((ABOVE, 50), (DROP, 1))


def smaller_rows(row):
    """In the document's order."""
    for place in range(len(row)):
        yield row[:place] + row[place + 1:]
    for place, value in enumerate(row):
        sign = 1 if value > 0 else -1
        for number in [] if value == 0 else [0, sign * int(abs(value) / 2), value - sign]:
            yield row[:place] + [number] + row[place + 1:]


def made_smaller(told, row):
    """By what look tells of each smaller row."""
    for again in range(60):
        found = [other for other in smaller_rows(row) if last(*told, look_at(other))[0] == 1]
        if not found:
            break
        row = found[0]
    return row


class Shrink(unittest.TestCase):
    def check(self, told, row, expected):
        self.assertEqual(last(told, shrink_row(row)), [len(expected), *expected], row)

    def test_without_its_first_number(self):
        self.check(broken_where(*SUM_ABOVE_NINE), [3, 6, 4], [6, 4])

    def test_without_its_second_number(self):
        self.check(broken_where(*SUM_ABOVE_NINE), [6, 3, 4], [6, 4])

    def test_without_its_last_number(self):
        self.check(broken_where(*SUM_ABOVE_NINE), [6, 4, 3], [6, 4])
        self.check(broken_where(*SUM_ABOVE_NINE), [2, 2, 2, 2, 2, 1], [2, 2, 2, 2, 2])

    def test_the_first_number_ahead_of_the_others(self):
        self.check(broken_where(*SUM_ABOVE_NINE), [7, 3, 6, 4], [6, 4])

    def test_without_numbers_ahead_of_nearer_ones(self):
        # With nearer ones first, 4 1 5 would come of it.
        self.check(broken_where(*SUM_ABOVE_NINE), [9, 1, 5], [5, 5])
        self.check(broken_where(*SUM_ABOVE_NINE), [4, 6, 0], [4, 6])

    def test_a_number_becomes_zero(self):
        self.check(broken_where(*SUM_ABOVE_NINE, condition=(5, 2)), [3, 10], [0, 10])
        self.check(broken_where(*SUM_ABOVE_NINE, condition=(5, 2)), [13, -3], [10, 0])
        # Multiples of 7: 0 is one, 3 and 6 aren't, -3 and -6 neither.
        for number in (7, -7):
            self.check(broken_where((REST, 7), (TIMES, -1), (ABOVE, -1)), [number], [0])

    def test_the_first_place_ahead_of_the_second_one(self):
        self.check(broken_where(*SUM_ABOVE_NINE, condition=(5, 2)), [10, 10], [0, 10])

    def test_a_number_becomes_its_half(self):
        # 2 more than a multiple of 3: of 5 that's 2, but not 0, 3 or 4.
        self.check(broken_where((REST, 3), (ABOVE, 1)), [5], [2])

    def test_a_number_below_zero_becomes_its_half(self):
        # 2 less than a multiple of 3: of -5 that's -2, but not 0, -3 or -4.
        self.check(broken_where((ADD, 1), (REST, 3), (ABOVE, 1)), [-5], [-2])

    def test_the_half_of_an_even_number(self):
        # 8 is 2 more than a multiple of 3; 4 and 7 aren't.
        self.check(broken_where((ABOVE, 2)), [6], [3])
        self.check(broken_where((TIMES, -1), (ABOVE, 2)), [-6], [-3])
        self.check(broken_where((REST, 3), (ABOVE, 1)), [8], [8])

    def test_zero_ahead_of_the_half(self):
        # Broken where the rests by 3 of 1 more than each number come to 2 or more. With the half
        # first, 0 9 would become 0 4, and that 4.
        told = broken_where((ADD, 1), (REST, 3), (SUM,), (ABOVE, 1))
        self.check(told, [0, 9], [0, 0])
        self.check(told, [0, 4], [4])

    def test_the_half_ahead_of_one_nearer(self):
        # No multiples of 3: 8, 4, 2, 1. One nearer first, 7 would stay.
        self.check(broken_where((REST, 3), (ABOVE, 0)), [8], [1])

    def test_one_nearer(self):
        self.check(broken_where((ABOVE, 9)), [12], [10])
        self.check(broken_where((TIMES, -1), (ABOVE, 9)), [-12], [-10])

    def test_nothing_smaller_is_broken(self):
        self.check(broken_where(*SUM_ABOVE_NINE), [6, 4], [6, 4])
        self.check(broken_where((ABOVE, 98)), [99], [99])

    def test_a_row_without_numbers(self):
        one_more = (program(1, SUM), relation(0, 0, 0, 1, ADD, 1))
        self.assertEqual(last(*one_more, shrink(0)), [0])
        self.assertEqual(last(*one_more, shrink(3, 7, 8, 9)), [0])

    def test_sixty_times(self):
        told = broken_where(*TWO_ABOVE_FIFTY)
        # 48 times until the first one is 51, then 12 more for the second one.
        self.check(told, [99, 62], [51, 51])
        self.check(told, [99, 63], [51, 51])
        self.check(told, [99, 64], [51, 52])
        self.check(told, [99, 99], [51, 87])

    def test_sixty_times_with_numbers_that_go(self):
        self.check(broken_where(*TWO_ABOVE_FIFTY), [1, 99, 2, 99, 3], [51, 90])

    def test_off_ones_are_passed_over(self):
        # Without a number the row has too few of them.
        self.check(broken_where((ABOVE, 0), condition=(5, 3)), [1, 2, 3], [0, 0, 1])
        self.check(broken_where((ABOVE, 0), condition=(2,)), [1, 2, 3], [1])
        # 99 and 98 aren't beyond, but 97, 49 and 0 are.
        calls = (program(4, ADD, -99, TIMES, 99, TIMES, 99, TIMES, 99), relation(0, 0, 0, 1, ADD, 1))
        self.assertEqual(last(*calls, shrink(1, 99)), [1, 98])

    def test_the_bound_does_not_count(self):
        for told in ((0, 0, 0), (2, 0, 37), (1, 5, 5)):
            self.assertEqual(last(bound(*told), broken_where((ABOVE, 9)), shrink(2, 12, 3)), [1, 10])

    def test_as_look_tells_of_each_smaller_row(self):
        running = (program(1, SUMS), relation(0, 1, REVERSE, 0, 1, REVERSE))
        for row in ([7, -5], [0, 1], [-9, 9, 3], [4, 4, 4, 4], [99, -99, 50, 0, 1], [1, -2, 4, -8, 16, -32, 64, -99]):
            expected = made_smaller(running, row)
            self.assertEqual(last(*running, shrink_row(row)), [len(expected), *expected], row)
        for condition in ((1,), (2,), (3,), (4,), (5, 3)):
            told = broken_where((REST, 7), (SUM,), (ABOVE, 4), condition=condition)
            for row in ([5, 6, 13], [6, 12, 19, 27], [4, 12, 90, 97, 99]):
                expected = made_smaller((told,), row)
                self.assertEqual(last(told, shrink_row(row)), [len(expected), *expected], (condition, row))


class Refused(unittest.TestCase):
    def test_not_broken(self):
        self.assertEqual(ask(shrink(0), shrink(1, 5), shrink(8, *(8 * [-99]))), 3 * [[-4]])
        self.assertEqual(last(broken_where(*SUM_ABOVE_NINE), shrink(2, 4, 5)), [-4])

    def test_off(self):
        told = broken_where(*SUM_ABOVE_NINE, condition=(5, 3))
        self.assertEqual(ask(told, shrink(2, 40, 40), shrink(3, 40, 40, 0))[1:], [[-4], [3, 0, 10, 0]])
        calls = (program(3, TIMES, 99, TIMES, 99, TIMES, 99), relation(0, 0, 0, 1, TIMES, -1))
        self.assertEqual(ask(*calls, shrink(1, 2), shrink(1, 1))[2:], [[-4], [1, 1]])

    def test_not_whole_ahead_of_not_broken(self):
        for told in ([], [1], [0, 0], [1, 100], [1, -100], [9] + 9 * [0], [-1]):
            self.assertEqual(ask(shrink(*told), shrink(0)), [[-1], [-4]], told)
            self.assertEqual(last(broken_where((ADD, 0)), shrink(*told)), [-1], told)

    def test_the_ends_of_a_row(self):
        self.assertEqual(last(broken_where((ABOVE, 98)), shrink(8, *(8 * [99]))), [1, 99])
        self.assertEqual(last(broken_where((TIMES, -1), (ABOVE, 98)), shrink(8, *(8 * [-99]))), [1, -99])


if __name__ == "__main__":
    unittest.main()
