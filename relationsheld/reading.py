"""Programs, relations, bounds and rows, read from the numbers that tell them."""

from relationsheld.numbering import Bound, how_many
from relationsheld.refusals import NotWhole
from relationsheld.relations import SO_MANY, Relation

MOST_STEPS = 8
LAST_STEP = 17
LAST_WAY = 6
LONGEST = 8
FARTHEST_TOLD = 99
MOST_COUNTED = 9
MOST_INPUTS = 1500

# From where to where the c, m or k of a step goes, for each step that has one.
STEP_NUMBERS = {
    0: (-99, 99),
    1: (-99, 99),
    2: (1, 9),
    6: (0, 9),
    7: (0, 9),
    8: (0, 9),
    9: (-99, 99),
}


class Reader:
    def __init__(self, told):
        self.told = told
        self.place = 0

    def take(self, lowest, highest):
        if self.place == len(self.told):
            raise NotWhole()
        number = self.told[self.place]
        if number < lowest or number > highest:
            raise NotWhole()
        self.place += 1
        return number

    def finish(self):
        if self.place != len(self.told):
            raise NotWhole()


def take_step(reader):
    kind = reader.take(0, LAST_STEP)
    if kind not in STEP_NUMBERS:
        return (kind, 0)
    ends = STEP_NUMBERS[kind]
    return (kind, reader.take(ends[0], ends[1]))


def take_program(reader):
    many = reader.take(0, MOST_STEPS)
    return [take_step(reader) for place in range(many)]


def take_condition(reader):
    kind = reader.take(0, SO_MANY)
    if kind != SO_MANY:
        return (kind, 0)
    return (kind, reader.take(0, MOST_COUNTED))


def read_program(told):
    reader = Reader(told)
    program = take_program(reader)
    reader.finish()
    return program


def read_relation(told):
    reader = Reader(told)
    condition = take_condition(reader)
    before = take_program(reader)
    way = reader.take(0, LAST_WAY)
    after = take_program(reader)
    reader.finish()
    return Relation(condition, before, way, after)


def read_bound(told):
    reader = Reader(told)
    length = reader.take(0, LONGEST)
    lowest = reader.take(-FARTHEST_TOLD, FARTHEST_TOLD)
    highest = reader.take(lowest, FARTHEST_TOLD)
    reader.finish()
    bound = Bound(length, lowest, highest)
    if how_many(bound) > MOST_INPUTS:
        raise NotWhole()
    return bound


def read_row(told):
    reader = Reader(told)
    many = reader.take(0, LONGEST)
    row = [reader.take(-FARTHEST_TOLD, FARTHEST_TOLD) for place in range(many)]
    reader.finish()
    return row
