"""Numbers that go into others; all numbers here are from one on."""


def greatest_divisor(number, other):
    while other != 0:
        left = number % other
        number = other
        other = left
    return number


def least_multiple(number, other):
    return number // greatest_divisor(number, other) * other
