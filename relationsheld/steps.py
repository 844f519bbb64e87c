"""Steps on rows, and the runs of programs.

A row is a list of whole numbers. A step is a tuple of its number and its c, m or k
(0 for a step without one). A program is a list of steps. No step changes the row it's given.
"""

MOST_NUMBERS = 40
FARTHEST = 1000000


def add(row, c):
    return [value + c for value in row]


def times(row, c):
    return [value * c for value in row]


def rest(row, m):
    return [value % m for value in row]


def without_signs(row):
    return [abs(value) for value in row]


def rising(row):
    return sorted(row)


def turned_round(row):
    return list(reversed(row))


def rotated(row, k):
    if not row:
        return []
    first = k % len(row)
    return row[first:] + row[:first]


def taken(row, k):
    return row[:k]


def dropped(row, k):
    return row[k:]


def above(row, c):
    return [value for value in row if value > c]


def once(row):
    found = []
    for value in row:
        if value not in found:
            found.append(value)
    return found


def sum_alone(row):
    return [sum(row)]


def greatest(row):
    return [max(row)] if row else []


def least(row):
    return [min(row)] if row else []


def count_alone(row):
    return [len(row)]


def differences(row):
    return [second - first for first, second in zip(row, row[1:])]


def running_sums(row):
    sums = []
    total = 0
    for value in row:
        total += value
        sums.append(total)
    return sums


def twice(row):
    return row + row


STEPS_WITH_NUMBER = {
    0: add,
    1: times,
    2: rest,
    6: rotated,
    7: taken,
    8: dropped,
    9: above,
}

STEPS_ALONE = {
    3: without_signs,
    4: rising,
    5: turned_round,
    10: once,
    11: sum_alone,
    12: greatest,
    13: least,
    14: count_alone,
    15: differences,
    16: running_sums,
    17: twice,
}


def is_beyond(row):
    if len(row) > MOST_NUMBERS:
        return True
    return bool(row) and (max(row) > FARTHEST or min(row) < -FARTHEST)


def after_step(step, row):
    if step[0] in STEPS_WITH_NUMBER:
        return STEPS_WITH_NUMBER[step[0]](row, step[1])
    return STEPS_ALONE[step[0]](row)


# None stands for a run without an outcome, since a row without numbers is an outcome.
def run(program, row):
    for step in program:
        row = after_step(step, row)
        if is_beyond(row):
            return None
    return row
