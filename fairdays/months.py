"""Days, weekdays and months."""

WEEKDAYS = 9
EVEN_MONTH = 35
ODD_MONTH = 37
# An even month and the odd one behind it are eight times the weekdays,
# so not only dates but also weekdays come again behind them.
TWO_MONTHS = 72


def date_of(day):
    month = day // TWO_MONTHS * 2
    left = day % TWO_MONTHS
    if left < EVEN_MONTH:
        return (month, left + 1)
    return (month + 1, left - EVEN_MONTH + 1)


def month_length(month):
    return EVEN_MONTH if month % 2 == 0 else ODD_MONTH


def weekday_of(day):
    return day % WEEKDAYS
