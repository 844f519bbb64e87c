"""Relations: conditions, ways to stand, the sides at an input, kept, broken and off."""

from relationsheld.steps import run

KEPT = 0
BROKEN = 1
OFF = 2

# The condition with a number of its own: k numbers or more.
SO_MANY = 5


# condition is a tuple of its number and its k (0 for one without); before and after are the
# turnings of the input and of the output; way is the number of how outputs stand.
class Relation:
    def __init__(self, condition, before, way, after):
        self.condition = condition
        self.before = before
        self.way = way
        self.after = after


def always(row):
    return True


def has_numbers(row):
    return len(row) > 0


def is_rising(row):
    return row == sorted(row)


def none_below_zero(row):
    return all([value >= 0 for value in row])


def none_twice(row):
    return len(set(row)) == len(row)


PLAIN_CONDITIONS = (always, has_numbers, is_rising, none_below_zero, none_twice)


def is_so(condition, row):
    if condition[0] == SO_MANY:
        return len(row) >= condition[1]
    return PLAIN_CONDITIONS[condition[0]](row)


def equal(left, right):
    return left == right


def same_bag(left, right):
    return sorted(left) == sorted(right)


def same_numbers(left, right):
    return set(left) == set(right)


def as_long(left, right):
    return len(left) == len(right)


def at_most(left, right):
    return as_long(left, right) and all([first <= second for first, second in zip(left, right)])


def at_least(left, right):
    return at_most(right, left)


def begins(left, right):
    return right[:len(left)] == left


WAYS = (equal, same_bag, same_numbers, at_most, at_least, begins, as_long)


def stands(way, left, right):
    return WAYS[way](left, right)


# The run of second on what comes of first; None if either one is beyond.
def run_both(first, second, row):
    between = run(first, row)
    return None if between is None else run(second, between)


# The left side and the right one; None where a run is beyond, whatever the condition.
def sides(program, relation, row):
    left = run_both(relation.before, program, row)
    if left is None:
        return None
    right = run_both(program, relation.after, row)
    return None if right is None else (left, right)


# A verdict and both sides, which are None where the relation is off.
def judged(program, relation, row):
    pair = sides(program, relation, row) if is_so(relation.condition, row) else None
    if pair is None:
        return (OFF, None)
    return (KEPT if stands(relation.way, pair[0], pair[1]) else BROKEN, pair)
