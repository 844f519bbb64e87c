"""The calls on one object, and their answers."""

from relationsheld.numbering import Bound, all_inputs, how_many, numbered
from relationsheld.reading import read_bound, read_program, read_relation, read_row
from relationsheld.refusals import NoSuch, NotWhole, TooMany
from relationsheld.relations import BROKEN, KEPT, OFF, Relation, judged

MOST_GONE_THROUGH = 300


class Subject:
    def __init__(self):
        self.program = []
        self.relation = Relation((0, 0), [], 0, [])
        self.bound = Bound(0, 0, 0)


def counted(row):
    return [len(row)] + row


def what_look_tells(subject, row):
    seen = judged(subject.program, subject.relation, row)
    if seen[0] == OFF:
        return [OFF]
    return [seen[0]] + counted(seen[1][0]) + counted(seen[1][1])


# The verdict at each input of the bound, in order of their numbers.
def all_verdicts(subject):
    if how_many(subject.bound) > MOST_GONE_THROUGH:
        raise TooMany()
    return [judged(subject.program, subject.relation, row)[0] for row in all_inputs(subject.bound)]


def all_broken(verdicts):
    return [number for number, verdict in enumerate(verdicts) if verdict == BROKEN]


def tell_program(subject, told):
    subject.program = read_program(told)
    return [len(subject.program)]


def tell_relation(subject, told):
    subject.relation = read_relation(told)
    return [len(subject.relation.before), len(subject.relation.after)]


def tell_bound(subject, told):
    subject.bound = read_bound(told)
    return [how_many(subject.bound)]


def ask_numbered(subject, told):
    if told[0] < 0 or told[0] >= how_many(subject.bound):
        raise NoSuch()
    return counted(numbered(subject.bound, told[0]))


def ask_look(subject, told):
    return what_look_tells(subject, read_row(told))


def ask_held(subject, told):
    verdicts = all_verdicts(subject)
    broken = all_broken(verdicts)
    first = broken[0] if broken else -1
    return [verdicts.count(KEPT), len(broken), verdicts.count(OFF), first]


def ask_breaking(subject, told):
    broken = all_broken(all_verdicts(subject))
    if told[0] < 0 or told[0] >= len(broken):
        raise NoSuch()
    number = broken[told[0]]
    row = numbered(subject.bound, number)
    return [number] + counted(row) + what_look_tells(subject, row)


CALLS = {
    0: tell_program,
    1: tell_relation,
    2: tell_bound,
    3: ask_numbered,
    4: ask_look,
    5: ask_held,
    6: ask_breaking,
}

# What is handed over with a call: one list behind its length, or one number; else nothing.
CALLS_WITH_LIST = (0, 1, 2, 4)
CALLS_WITH_NUMBER = (3, 6)


# Where what is handed over with the call at this place begins, and where it ends.
def span_told(calls, place):
    if calls[place] in CALLS_WITH_LIST:
        return (place + 2, place + 2 + calls[place + 1])
    if calls[place] in CALLS_WITH_NUMBER:
        return (place + 1, place + 2)
    return (place + 1, place + 1)


def answer(subject, call, told):
    try:
        return CALLS[call](subject, told)
    except NotWhole:
        return [-1]
    except NoSuch:
        return [-2]
    except TooMany:
        return [-7]


def answers(calls):
    subject = Subject()
    answered = []
    place = 0
    while place < len(calls):
        span = span_told(calls, place)
        answered.extend(counted(answer(subject, calls[place], calls[span[0]:span[1]])))
        place = span[1]
    return answered
