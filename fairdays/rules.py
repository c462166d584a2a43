"""Which days a rule has, and behind how many days they come again."""

from fairdays.parts import part_of


def has_day(rule, day):
    return part_of(rule).has(day)


def turn_of(rule):
    return part_of(rule).turn
