"""Bounds: how many inputs one has, and which input has which number."""


# The inputs: all rows of up to length numbers from lowest to highest.
class Bound:
    def __init__(self, length, lowest, highest):
        self.length = length
        self.lowest = lowest
        self.highest = highest


def choices(bound):
    return bound.highest - bound.lowest + 1


def how_many(bound):
    total = 0
    as_long = 1
    for length in range(bound.length + 1):
        total += as_long
        as_long *= choices(bound)
    return total


# Shorter inputs come first; among those as long, the number is the row read as digits.
def numbered(bound, number):
    length = 0
    as_long = 1
    while number >= as_long:
        number -= as_long
        as_long *= choices(bound)
        length += 1
    backwards = []
    for place in range(length):
        backwards.append(bound.lowest + number % choices(bound))
        number //= choices(bound)
    return list(reversed(backwards))


def all_inputs(bound):
    return [numbered(bound, number) for number in range(how_many(bound))]
