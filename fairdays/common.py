"""The days that two rules `every` share, told without searching."""

from fairdays.divisors import greatest_divisor, inverse_of, least_multiple
from fairdays.errors import NoRule


def common_days(many, start, other_many, other_start):
    if many < 1 or other_many < 1:
        raise NoRule("every: the number of days is from 1 on")
    divisor = greatest_divisor(many, other_many)
    difference = other_start - start
    if difference % divisor != 0:
        return None
    # Without the divisor the two numbers have nothing in common, so the steps
    # of the first that make up the difference can be told by an inverse.
    rest = other_many // divisor
    steps = difference // divisor * inverse_of(many // divisor, rest)
    turn = least_multiple(many, other_many)
    return (turn, (start + steps * many) % turn)
