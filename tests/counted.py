"""Days counted one by one, straight from the document's words, to hold the program against.

Nothing here is clever or quick: months are laid out one behind the other, and
a rule's days are gathered in a set. Days are only right from LEAST to MOST.
"""

LEAST = -2000
MOST = 2000
# Moved days come from ahead of the days asked for, so more days are laid out.
SPAN = 12000


def laid_months():
    """A dict from a day to its month, its date and its month's number of days."""
    laid = {}
    first, month = 0, 0
    while first <= SPAN:
        length = 37 if month % 2 else 35
        for date in range(1, length + 1):
            laid[first + date - 1] = (month, date, length)
        first, month = first + length, month + 1
    last, month = -1, -1
    while last >= -SPAN:
        length = 37 if month % 2 else 35
        for date in range(1, length + 1):
            laid[last - length + date] = (month, date, length)
        last, month = last - length, month - 1
    return laid


MONTHS = laid_months()
DAYS = range(-SPAN, SPAN + 1)


def weekday(day):
    while day < 0:
        day += 9
    while day > 8:
        day -= 9
    return day


WEEKDAYS = {day: weekday(day) for day in MONTHS}


def days_by_month():
    months = {}
    for day in sorted(MONTHS):
        months.setdefault(MONTHS[day][0], []).append(day)
    return months


BY_MONTH = days_by_month()


def picked(days, which):
    """The which-th of some days, counted from either end, as a list of one or none."""
    ordered = days if which > 0 else days[::-1]
    return ordered[abs(which) - 1:abs(which)]


def days_of(rule):
    """The set of a rule's days, right at least from LEAST to MOST."""
    kind = rule[0]
    if kind == "every":
        steps = range(-2 * SPAN, 2 * SPAN + 1)
        return {rule[2] + rule[1] * step for step in steps} & set(DAYS)
    if kind == "date":
        return {day for days in BY_MONTH.values() for day in picked(days, rule[1])}
    if kind == "nth":
        found = set()
        for days in BY_MONTH.values():
            found.update(picked([day for day in days if WEEKDAYS[day] == rule[2]], rule[1]))
        return found
    return paired_days(kind, days_of(rule[1]), days_of(rule[2]))


def paired_days(kind, days, others):
    if kind == "both":
        return days & others
    if kind == "either":
        return days | others
    if kind == "but":
        return days - others
    moved = set()
    for day in days:
        while day in others:
            day += 1
        if day <= SPAN:
            moved.add(day)
    return moved
