"""Which day is the next, how many there are, and which is the so many-th.

All is told from the days of one turn, since the others are whole turns away.
"""

from fairdays.errors import NoCount
from fairdays.parts import part_of


def next_day(rule, day):
    return nth_day(rule, day, 1)


def day_ahead(rule, day):
    marks = part_of(rule).marks()
    return day_at(marks, days_up_to(marks, day) - 1)


def how_many(rule, first, last):
    marks = part_of(rule).marks()
    if last < first:
        return 0
    return days_up_to(marks, last + 1) - days_up_to(marks, first)


def nth_day(rule, day, many):
    part = part_of(rule)
    if many < 1:
        raise NoCount("the number of a day is from 1 on")
    marks = part.marks()
    return day_at(marks, days_up_to(marks, day + 1) + many - 1)


# How many days are had from day nought up to a day that is not counted itself.
# For a day ahead of day nought it is below nought, so that the difference of
# two such numbers is right wherever the two days lie.
def days_up_to(marks, day):
    turns = day // len(marks)
    left = day % len(marks)
    return turns * marks.count(True) + marks[:left].count(True)


# The days that are had have places: 0 is that of the first one from day
# nought on, -1 that of the one ahead of it.
def day_at(marks, place):
    days = [day for day, had in enumerate(marks) if had]
    if len(days) == 0:
        return None
    return place // len(days) * len(marks) + days[place % len(days)]
