"""Points [2] and [3]: weekdays, months and dates."""

import unittest

from counted import DAYS, MONTHS, WEEKDAYS
from fairdays.months import date_of
from fairdays.rules import has_day

HUGE = 10 ** 98


class Dates(unittest.TestCase):
    def test_the_days_that_the_document_names(self):
        self.assertEqual(date_of(35), (1, 1))
        self.assertEqual(date_of(72), (2, 1))
        self.assertEqual(date_of(-1), (-1, 37))

    def test_day_nought(self):
        self.assertEqual(date_of(0), (0, 1))

    def test_first_and_last_days_of_months(self):
        told = {
            34: (0, 35), 71: (1, 37), 106: (2, 35), 107: (3, 1), 143: (3, 37), 144: (4, 1),
            -37: (-1, 1), -38: (-2, 35), -72: (-2, 1), -73: (-3, 37), -109: (-3, 1), -110: (-4, 35), -144: (-4, 1),
        }
        for day, date in told.items():
            with self.subTest(day=day):
                self.assertEqual(date_of(day), date)

    def test_all_days_as_counted_one_by_one(self):
        for day in DAYS:
            self.assertEqual(date_of(day), MONTHS[day][:2], day)

    def test_days_of_many_figures(self):
        self.assertEqual(date_of(72 * HUGE), (2 * HUGE, 1))
        self.assertEqual(date_of(72 * HUGE + 34), (2 * HUGE, 35))
        self.assertEqual(date_of(72 * HUGE + 35), (2 * HUGE + 1, 1))
        self.assertEqual(date_of(72 * HUGE - 1), (2 * HUGE - 1, 37))
        self.assertEqual(date_of(-72 * HUGE), (-2 * HUGE, 1))
        self.assertEqual(date_of(-72 * HUGE - 1), (-2 * HUGE - 1, 37))
        self.assertEqual(date_of(-72 * HUGE - 37), (-2 * HUGE - 1, 1))
        self.assertEqual(date_of(-72 * HUGE - 38), (-2 * HUGE - 2, 35))

    def test_the_longest_days(self):
        longest = 10 ** 100 - 1
        for day in (longest, -longest):
            month, date = date_of(day)
            first = month // 2 * 72 + (35 if month % 2 else 0)
            self.assertEqual(first + date - 1, day)
            self.assertTrue(1 <= date <= (37 if month % 2 else 35))

    def test_days_somewhat_beyond_a_hundred_figures_are_not_refused(self):
        self.assertEqual(date_of(72 * 10 ** 120), (2 * 10 ** 120, 1))
        self.assertEqual(date_of(-72 * 10 ** 120 - 1), (-2 * 10 ** 120 - 1, 37))

    def test_the_kind_of_the_answer(self):
        for day in (-1, 0, 35):
            answer = date_of(day)
            self.assertIs(type(answer), tuple)
            self.assertEqual([type(number) for number in answer], [int, int])


class Weekdays(unittest.TestCase):
    """A day's weekday shows in the rules `nth`: it is the one whose five rules have the day."""

    def shown_weekdays(self, day):
        return [weekday for weekday in range(9) if any(has_day(("nth", which, weekday), day) for which in range(1, 6))]

    def test_the_day_that_the_document_names(self):
        self.assertEqual(self.shown_weekdays(-1), [8])

    def test_days_on_both_sides_of_nought(self):
        for day in range(-150, 151):
            self.assertEqual(self.shown_weekdays(day), [WEEKDAYS[day]], day)

    def test_days_of_many_figures(self):
        self.assertEqual(self.shown_weekdays(9 * HUGE), [0])
        self.assertEqual(self.shown_weekdays(9 * HUGE + 5), [5])
        self.assertEqual(self.shown_weekdays(-9 * HUGE - 1), [8])


if __name__ == "__main__":
    unittest.main()
