"""What a call is refused for: one error for each refusal."""


# The numbers told aren't whole what they should be: -1.
class NotWhole(Exception):
    pass


# Nothing has the number asked for: -2.
class NoSuch(Exception):
    pass


# The bound has more inputs than a call goes through: -7.
class TooMany(Exception):
    pass


# The relation isn't broken at the row: -4.
class NotBroken(Exception):
    pass
