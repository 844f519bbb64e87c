"""Rows a little smaller, and a breaking row made smaller."""

from relationsheld.relations import BROKEN, judged

MOST_TIMES = 60


# What a number becomes when it's nearer to 0, in the order in which it's tried.
def nearer(value):
    if value == 0:
        return []
    sign = 1 if value > 0 else -1
    # The half is taken without the sign, since // rounds downwards, not towards 0.
    return [0, sign * (abs(value) // 2), value - sign]


def smaller_rows(row):
    rows = [row[:place] + row[place + 1:] for place in range(len(row))]
    for place, value in enumerate(row):
        rows.extend([row[:place] + [other] + row[place + 1:] for other in nearer(value)])
    return rows


def is_broken(program, relation, row):
    return judged(program, relation, row)[0] == BROKEN


# None if the relation is broken at none of them.
def first_broken(program, relation, rows):
    for row in rows:
        if is_broken(program, relation, row):
            return row
    return None


def made_smaller(program, relation, row):
    for again in range(MOST_TIMES):
        found = first_broken(program, relation, smaller_rows(row))
        if found is None:
            return row
        row = found
    return row
