"""Builds lists of calls, and parts what is answered into one list a call."""

from relationsheld.bounds import answers

FAR = 10 ** 18
HELD = [5]
STAND = [7]
CONDS = [8]
CUT = [9]
SLACK = [10]

# The steps' numbers, as the document gives them.
ADD, TIMES, REST, ABS, SORT, REVERSE, ROTATE, TAKE, DROP = range(9)
ABOVE, ONCE, SUM, GREATEST, LEAST, COUNT, STEPS, SUMS, TWICE = range(9, 18)


def program(*told):
    return [0, len(told), *told]


def relation(*told):
    return [1, len(told), *told]


def bound(*told):
    return [2, len(told), *told]


def numbered(k):
    return [3, k]


def look(*told):
    return [4, len(told), *told]


def look_at(row):
    return look(len(row), *row)


def breaking(n):
    return [6, n]


def shrink(*told):
    return [11, len(told), *told]


def shrink_row(row):
    return shrink(len(row), *row)


def against(*told):
    return [12, len(told), *told]


def parted(answered):
    parts = []
    place = 0
    while place < len(answered):
        end = place + 1 + answered[place]
        parts.append(answered[place + 1:end])
        place = end
    if place != len(answered):
        raise ValueError(answered)
    return parts


def ask(*calls):
    """What each of the calls answers, on one new object."""
    parts = parted(answers([number for call in calls for number in call]))
    if len(parts) != len(calls):
        raise ValueError(parts)
    return parts


def last(*calls):
    """What the last of the calls answers."""
    return ask(*calls)[-1]


def outcome(told, row):
    """What the program makes of the row, None if there's no outcome.

    The relation at the beginning is kept wherever it isn't off, with the outcome on both sides.
    """
    seen = last(program(*told), look_at(row))
    if seen == [2]:
        return None
    left = seen[2:2 + seen[1]]
    if seen != [0] + 2 * [len(left), *left]:
        raise ValueError(seen)
    return left
