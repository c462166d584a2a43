"""Numbers that go into others; all numbers here are from one on."""


def greatest_divisor(number, other):
    while other != 0:
        left = number % other
        number = other
        other = left
    return number


def least_multiple(number, other):
    return number // greatest_divisor(number, other) * other


# The number from nought on, below `other`, that taken `number` times leaves one
# when `other` is taken off; the two have no common divisor but one.
def inverse_of(number, other):
    # Euclid's steps, with each rest written as so many times `number`, but for
    # a whole number of times `other`; the last rest that isn't nought is one.
    rest = other
    times = 0
    next_rest = number % other
    next_times = 1
    while next_rest != 0:
        whole = rest // next_rest
        last_rest = rest - whole * next_rest
        last_times = times - whole * next_times
        rest = next_rest
        times = next_times
        next_rest = last_rest
        next_times = last_times
    return times % other
