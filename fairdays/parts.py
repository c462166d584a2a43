"""Rules made into objects: each part of a rule knows its turn and which days it has.

Making the parts checks the numbers of the whole rule, so a rule that has
parts is a rule of the document. A part tells of one day with `has`, and with
`marks`, a list of True or False, of each day of the turn that begins with day
nought.
"""

from fairdays.divisors import least_multiple
from fairdays.errors import NoRule
from fairdays.months import ODD_MONTH, TWO_MONTHS, WEEKDAYS, date_of, month_length, weekday_of

MOST_DAYS = 60
MOST_WHICH = 5


class PlainPart:
    def marks(self):
        return [self.has(day) for day in range(self.turn)]


class EveryPart(PlainPart):
    def __init__(self, many, start):
        if not 1 <= many <= MOST_DAYS:
            raise NoRule("every: the number of days is from 1 to 60")
        self.turn = many
        self.start = start

    def has(self, day):
        return (day - self.start) % self.turn == 0


class DatePart(PlainPart):
    def __init__(self, date):
        if not 1 <= abs(date) <= ODD_MONTH:
            raise NoRule("date: the date is from 1 to 37 or from -37 to -1")
        self.turn = TWO_MONTHS
        self.date = date

    def has(self, day):
        place = date_of(day)
        if self.date > 0:
            return place[1] == self.date
        return place[1] - month_length(place[0]) - 1 == self.date


class NthPart(PlainPart):
    def __init__(self, which, weekday):
        if not 1 <= abs(which) <= MOST_WHICH:
            raise NoRule("nth: the number is from 1 to 5 or from -5 to -1")
        if not 0 <= weekday < WEEKDAYS:
            raise NoRule("nth: the weekday is from 0 to 8")
        self.turn = TWO_MONTHS
        self.which = which
        self.weekday = weekday

    def has(self, day):
        if weekday_of(day) != self.weekday:
            return False
        place = date_of(day)
        if self.which > 0:
            return (place[1] - 1) // WEEKDAYS + 1 == self.which
        return (month_length(place[0]) - place[1]) // WEEKDAYS + 1 == -self.which


class PairPart:
    def __init__(self, part, other):
        self.turn = least_multiple(part.turn, other.turn)
        self.part = part
        self.other = other

    # The days of a whole turn are joined at once: asked one by one, each of
    # them would take a walk through all that lies below.
    def marks(self):
        marks = self.part.marks() * (self.turn // self.part.turn)
        others = self.other.marks() * (self.turn // self.other.turn)
        return self.joined(marks, others)


class BothPart(PairPart):
    def has(self, day):
        return self.part.has(day) and self.other.has(day)

    def joined(self, marks, others):
        return [had and other for had, other in zip(marks, others)]


class EitherPart(PairPart):
    def has(self, day):
        return self.part.has(day) or self.other.has(day)

    def joined(self, marks, others):
        return [had or other for had, other in zip(marks, others)]


class ButPart(PairPart):
    def has(self, day):
        return self.part.has(day) and not self.other.has(day)

    def joined(self, marks, others):
        return [had and not other for had, other in zip(marks, others)]


class MovedPart(PairPart):
    def __init__(self, part, shunned):
        PairPart.__init__(self, part, shunned)
        # One day is asked by looking at many days of the parts below. Were
        # these not kept, moved rules within moved rules would be asked the
        # same days again and again, more often with each step down.
        self.known = {}

    def has(self, day):
        left = day % self.turn
        if left not in self.known:
            self.known[left] = not self.other.has(left) and self.is_reached(left)
        return self.known[left]

    # Only a day that is not shunned is asked here: so the walk back ends
    # within a turn, where the shunned days come again.
    def is_reached(self, day):
        while not self.part.has(day):
            day = day - 1
            if not self.other.has(day):
                return False
        return True

    def joined(self, marks, others):
        waiting = False
        # The first walk only tells whether a day of the turn ahead is still
        # to be moved when the turn begins.
        for had, shunned in zip(marks, others):
            waiting = (waiting or had) and shunned
        moved = []
        for had, shunned in zip(marks, others):
            waiting = waiting or had
            moved.append(waiting and not shunned)
            waiting = waiting and shunned
        return moved


def part_of(rule):
    kind = rule[0]
    if kind == "every":
        return EveryPart(rule[1], rule[2])
    if kind == "date":
        return DatePart(rule[1])
    if kind == "nth":
        return NthPart(rule[1], rule[2])
    return pair_of(kind, part_of(rule[1]), part_of(rule[2]))


def pair_of(kind, part, other):
    if kind == "both":
        return BothPart(part, other)
    if kind == "either":
        return EitherPart(part, other)
    if kind == "but":
        return ButPart(part, other)
    if kind == "moved":
        return MovedPart(part, other)
    raise NoRule("there is no such kind of rule")
