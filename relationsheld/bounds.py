"""The calls on one object, and their answers."""

from relationsheld.findings import (all_pairs, all_verdicts, counts_against, first_cut, slack,
                                    strongest, under_conditions, ways_that_hold)
from relationsheld.numbering import Bound, all_inputs, how_many, numbered
from relationsheld.reading import read_bound, read_program, read_relation, read_row
from relationsheld.refusals import NoSuch, NotBroken, NotWhole, TooMany
from relationsheld.relations import BROKEN, KEPT, OFF, SO_MANY, Relation, judged
from relationsheld.smaller import is_broken, made_smaller

MOST_GONE_THROUGH = 300


class Subject:
    def __init__(self):
        self.program = []
        self.relation = Relation((0, 0), [], 0, [])
        self.bound = Bound(0, 0, 0)


def counted(row):
    return [len(row)] + row


def condition_told(condition):
    return list(condition) if condition[0] == SO_MANY else [condition[0]]


def what_look_tells(subject, row):
    seen = judged(subject.program, subject.relation, row)
    if seen[0] == OFF:
        return [OFF]
    return [seen[0]] + counted(seen[1][0]) + counted(seen[1][1])


# The inputs of the bound, in order of their numbers, if they aren't too many to go through.
def gone_through(subject):
    if how_many(subject.bound) > MOST_GONE_THROUGH:
        raise TooMany()
    return all_inputs(subject.bound)


def verdicts_of(subject):
    return all_verdicts(subject.program, subject.relation, gone_through(subject))


def pairs_of(subject):
    return all_pairs(subject.program, subject.relation, gone_through(subject))


def all_broken(verdicts):
    return [number for number, verdict in enumerate(verdicts) if verdict == BROKEN]


def tell_program(subject, told):
    subject.program = read_program(told)
    return [len(subject.program)]


def tell_relation(subject, told):
    subject.relation = read_relation(told)
    return [len(subject.relation.before), len(subject.relation.after)]


def tell_bound(subject, told):
    subject.bound = read_bound(told)
    return [how_many(subject.bound)]


def ask_numbered(subject, told):
    if told[0] < 0 or told[0] >= how_many(subject.bound):
        raise NoSuch()
    return counted(numbered(subject.bound, told[0]))


def ask_look(subject, told):
    return what_look_tells(subject, read_row(told))


def ask_held(subject, told):
    verdicts = verdicts_of(subject)
    broken = all_broken(verdicts)
    first = broken[0] if broken else -1
    return [verdicts.count(KEPT), len(broken), verdicts.count(OFF), first]


def ask_breaking(subject, told):
    broken = all_broken(verdicts_of(subject))
    if told[0] < 0 or told[0] >= len(broken):
        raise NoSuch()
    number = broken[told[0]]
    row = numbered(subject.bound, number)
    return [number] + counted(row) + what_look_tells(subject, row)


def ask_stand(subject, told):
    ways = ways_that_hold(pairs_of(subject))
    return counted(ways) + counted(strongest(ways))


def ask_conds(subject, told):
    answered = []
    for counts in under_conditions(subject.program, subject.relation, gone_through(subject)):
        answered.extend(counts)
    return answered


def ask_cut(subject, told):
    condition = first_cut(subject.program, subject.relation, gone_through(subject))
    return [0] if condition is None else [1] + condition_told(condition)


def ask_slack(subject, told):
    ends = slack(pairs_of(subject))
    return [0] if ends is None else [1, ends[0], ends[1]]


def ask_shrink(subject, told):
    row = read_row(told)
    if not is_broken(subject.program, subject.relation, row):
        raise NotBroken()
    return counted(made_smaller(subject.program, subject.relation, row))


def ask_against(subject, told):
    other = read_relation(told)
    return counts_against(subject.program, subject.relation, other, gone_through(subject))


CALLS = {
    0: tell_program,
    1: tell_relation,
    2: tell_bound,
    3: ask_numbered,
    4: ask_look,
    5: ask_held,
    6: ask_breaking,
    7: ask_stand,
    8: ask_conds,
    9: ask_cut,
    10: ask_slack,
    11: ask_shrink,
    12: ask_against,
}

# What is handed over with a call: one list behind its length, or one number; else nothing.
CALLS_WITH_LIST = (0, 1, 2, 4, 11, 12)
CALLS_WITH_NUMBER = (3, 6)


# Where what is handed over with the call at this place begins, and where it ends.
def span_told(calls, place):
    if calls[place] in CALLS_WITH_LIST:
        return (place + 2, place + 2 + calls[place + 1])
    if calls[place] in CALLS_WITH_NUMBER:
        return (place + 1, place + 2)
    return (place + 1, place + 1)


def answer(subject, call, told):
    try:
        return CALLS[call](subject, told)
    except NotWhole:
        return [-1]
    except NoSuch:
        return [-2]
    except NotBroken:
        return [-4]
    except TooMany:
        return [-7]


def answers(calls):
    subject = Subject()
    answered = []
    place = 0
    while place < len(calls):
        span = span_told(calls, place)
        answered.extend(counted(answer(subject, calls[place], calls[span[0]:span[1]])))
        place = span[1]
    return answered
