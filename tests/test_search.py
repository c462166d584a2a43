"""Points [6], [7] and [8]: the next day and the one ahead, how many days, and the so many-th."""

import bisect
import functools
import random
import unittest

from counted import days_of
from fairdays.errors import NoCount
from fairdays.rules import has_day, turn_of
from fairdays.search import day_ahead, how_many, next_day, nth_day
from test_rules import drawn_rule

HUGE = 10 ** 99
ALL = ("every", 1, 0)
NONE = ("but", ALL, ALL)
KINDS = (
    ("every", 1, 0),
    ("every", 5, -3),
    ("every", 60, 59),
    ("every", 7, 1003),
    ("date", 1),
    ("date", 12),
    ("date", 36),
    ("date", 37),
    ("date", -1),
    ("date", -36),
    ("date", -37),
    ("nth", 1, 0),
    ("nth", 5, 8),
    ("nth", -1, 8),
    ("nth", -4, 8),
    ("both", ("every", 10, 0), ("date", 3)),
    ("either", ("every", 10, 0), ("nth", 3, 8)),
    ("but", ("every", 5, 2), ("date", -3)),
    ("moved", ("every", 7, 0), ("nth", 2, 5)),
    ("moved", ("date", -1), ("but", ALL, ("every", 50, 49))),
    ("moved", ("moved", ("every", 5, 0), ("every", 2, 1)), ("either", ("date", 1), ("date", -1))),
)
FAR = ("every", 60, 10 ** 99)
# Days 2519 and -1 and all whole turns from them.
ONCE = ("both", ("every", 56, 55), ("every", 45, 44))
# Its days behind the shunned ones lie in the next turn.
OVER = ("moved", ("every", 60, 58), ("either", ("every", 60, 58), ("every", 60, 59)))
WITHOUT_DAYS = (
    NONE,
    ("both", ("every", 2, 0), ("every", 2, 1)),
    ("both", ("every", 6, 0), ("every", 4, 1)),
    ("both", ("date", 1), ("date", 2)),
    ("but", ("date", 36), ("date", 36)),
    ("but", ("every", 12, 0), ("every", 4, 0)),
    ("moved", ("every", 7, 3), ALL),
    ("moved", ALL, ("either", ("every", 2, 0), ("every", 2, 1))),
    ("moved", NONE, ("every", 2, 0)),
    ("nth", 5, 0),
    ("nth", -5, 7),
    # Only odd months have these dates, and in these the last day is 37.
    ("both", ("date", 36), ("date", -1)),
    ("both", ("date", 37), ("date", -36)),
    ("but", ("date", 37), ("date", -1)),
    ("both", ("date", 36), ("every", 36, 0)),
)


@functools.cache
def counted_days(rule):
    return days_of(rule)


class SearchCase(unittest.TestCase):
    def assert_asked(self, rule, first, last):
        """All answers from a day to another, against days counted one by one."""
        counted = sorted(counted_days(rule))
        for day in range(first, last + 1):
            place = bisect.bisect_right(counted, day)
            behind = counted[place:place + 9]
            ahead = [other for other in counted[place - 2:place] if other < day][-1]
            self.assertEqual(next_day(rule, day), behind[0], (rule, day))
            self.assertEqual(day_ahead(rule, day), ahead, (rule, day))
            self.assertEqual([nth_day(rule, day, many) for many in range(1, 10)], behind, (rule, day))


class NextDays(SearchCase):
    def test_each_kind_from_days_that_it_has_and_hasnt(self):
        for rule in KINDS:
            self.assert_asked(rule, -76, 76)

    def test_a_day_itself_is_neither_next_nor_ahead(self):
        self.assertEqual(next_day(("every", 5, -3), -3), 2)
        self.assertEqual(next_day(("every", 5, -3), -4), -3)
        self.assertEqual(next_day(("every", 5, -3), -2), 2)
        self.assertEqual(day_ahead(("every", 5, -3), -3), -8)
        self.assertEqual(day_ahead(("every", 5, -3), -2), -3)
        self.assertEqual(day_ahead(("every", 5, -3), -4), -8)

    def test_dates_that_only_odd_months_have(self):
        self.assertEqual(next_day(("date", 37), 0), 71)
        self.assertEqual(next_day(("date", 37), 71), 143)
        self.assertEqual(day_ahead(("date", 37), 71), -1)
        self.assertEqual(next_day(("date", -37), 35), 107)
        self.assertEqual(day_ahead(("date", 36), 0), -2)

    def test_one_day_in_the_turn(self):
        self.assertEqual(turn_of(ONCE), 2520)
        for day, behind, ahead in ((0, 2519, -1), (-1, 2519, -2521), (-2, -1, -2521), (2518, 2519, -1),
                                   (2519, 5039, -1), (2520, 5039, 2519), (-2521, -1, -5041), (-2522, -2521, -5041)):
            self.assertEqual(next_day(ONCE, day), behind)
            self.assertEqual(day_ahead(ONCE, day), ahead)

    def test_days_moved_into_the_next_turn(self):
        self.assertEqual(next_day(OVER, -1), 0)
        self.assertEqual(next_day(OVER, 0), 60)
        self.assertEqual(day_ahead(OVER, 60), 0)
        self.assertEqual(day_ahead(OVER, 0), -60)
        self.assertEqual(how_many(OVER, 1, 59), 0)

    def test_days_of_a_hundred_figures(self):
        for rule in KINDS + (FAR, ONCE, OVER):
            far = turn_of(rule) * 10 ** 96
            for day in range(-76, 76, 5):
                for away in (far, -far):
                    self.assertEqual(next_day(rule, day + away), next_day(rule, day) + away)
                    self.assertEqual(day_ahead(rule, day + away), day_ahead(rule, day) + away)

    def test_the_greatest_numbers(self):
        most = 10 ** 100 - 1
        for day in (most, -most):
            self.assertEqual(next_day(("every", 60, day), day), day + 60)
            self.assertEqual(day_ahead(("every", 60, day), day), day - 60)
            self.assertEqual(next_day(("every", 60, day), day - 1), day)
            self.assertEqual(next_day(("every", 7, -day), -day - 7 * 10 ** 90 - 1), -day - 7 * 10 ** 90)
            self.assertEqual(next_day(ALL, day), day + 1)

    def test_rules_without_a_day(self):
        for rule in WITHOUT_DAYS:
            for day in (-HUGE, -73, -1, 0, 1, 36, 72, HUGE):
                self.assertIsNone(next_day(rule, day), rule)
                self.assertIsNone(day_ahead(rule, day), rule)

    def test_the_kind_of_the_answer(self):
        for rule in KINDS:
            self.assertIs(type(next_day(rule, 0)), int)
            self.assertIs(type(day_ahead(rule, 0)), int)

    def test_rules_drawn_with_a_fixed_seed(self):
        drawn = random.Random(6)
        for step in range(60):
            rule = drawn_rule(drawn, drawn.randrange(4))
            if turn_of(rule) <= 1000:
                counted = sorted(counted_days(rule))
                for day in [drawn.randrange(-900, 900) for count in range(6)]:
                    behind = [other for other in counted if other > day]
                    ahead = [other for other in counted if other < day]
                    self.assertEqual(next_day(rule, day), behind[0] if behind else None, rule)
                    self.assertEqual(day_ahead(rule, day), ahead[-1] if ahead else None, rule)


class HowMany(unittest.TestCase):
    def assert_count(self, rule, first, last):
        counted = counted_days(rule)
        expected = len([day for day in range(first, last + 1) if day in counted])
        self.assertEqual(how_many(rule, first, last), expected, (rule, first, last))

    def test_each_day_alone(self):
        for rule in KINDS + (OVER,):
            counted = counted_days(rule)
            for day in range(-150, 151):
                self.assertEqual(how_many(rule, day, day), 1 if day in counted else 0, (rule, day))

    def test_many_days_together(self):
        for rule in KINDS + (ONCE, OVER):
            for first in (-1000, -144, -73, -72, -71, -1, 0, 1, 2, 35, 71, 72):
                for length in (1, 2, 9, 35, 37, 71, 72, 73, 143, 144, 360, 800):
                    self.assert_count(rule, first, first + length - 1)

    def test_both_days_are_counted(self):
        self.assertEqual(how_many(("every", 5, -3), -3, 2), 2)
        self.assertEqual(how_many(("every", 5, -3), -2, 2), 1)
        self.assertEqual(how_many(("every", 5, -3), -3, 1), 1)
        self.assertEqual(how_many(("every", 5, -3), -2, 1), 0)

    def test_the_last_is_the_lesser(self):
        for rule in KINDS + (NONE,):
            for first in (-72, -1, 0, 1, 35, HUGE):
                for less in (1, 2, 72, 10 ** 12, 3 * HUGE):
                    self.assertEqual(how_many(rule, first, first - less), 0, (rule, first, less))

    def test_whole_turns(self):
        for rule in KINDS + (FAR, ONCE, OVER):
            turn = turn_of(rule)
            once = len([day for day in range(turn) if has_day(rule, day)])
            for turns in (1, 2, 10 ** 12, 10 ** 96):
                for first in (0, -1, 17, -turn * turns, 1 - turn * turns, -turn * (turns // 2) - 5):
                    self.assertEqual(how_many(rule, first, first + turn * turns - 1), once * turns, rule)

    def test_many_turns_and_some_days(self):
        for rule in KINDS:
            turn = turn_of(rule)
            once = how_many(rule, 0, turn - 1)
            for turns in (10 ** 12, 10 ** 96):
                for first, last in ((0, 40), (-30, 5), (13, 13), (40, 90), (5, 4)):
                    here = how_many(rule, first, last)
                    self.assertEqual(how_many(rule, first, last + turn * turns), here + once * turns)
                    self.assertEqual(how_many(rule, first - turn * turns, last), here + once * turns)
                    far = how_many(rule, first - turn * turns, last + turn * turns)
                    self.assertEqual(far, here + 2 * once * turns)

    def test_numbers_of_a_hundred_figures(self):
        most = 10 ** 100 - 1
        self.assertEqual(how_many(ALL, -most, most), 2 * most + 1)
        self.assertEqual(how_many(("every", 10, 0), 1, most), most // 10)
        self.assertEqual(how_many(("every", 9, 0), -most, most), 2 * (most // 9) + 1)
        self.assertEqual(how_many(("every", 60, most), most - 60, most), 2)
        self.assertEqual(how_many(("every", 60, most), most - 59, most), 1)
        self.assertEqual(how_many(("date", 12), 72 * HUGE, 72 * HUGE + 71), 2)

    def test_rules_without_a_day(self):
        for rule in WITHOUT_DAYS:
            for first, last in ((0, 0), (-5, 5), (0, 71), (-HUGE, HUGE), (5, -5)):
                self.assertEqual(how_many(rule, first, last), 0, rule)

    def test_the_kind_of_the_answer(self):
        for rule in KINDS + (NONE,):
            for first, last in ((0, 100), (0, 0), (100, 0)):
                self.assertIs(type(how_many(rule, first, last)), int)

    def test_rules_drawn_with_a_fixed_seed(self):
        drawn = random.Random(7)
        for step in range(60):
            rule = drawn_rule(drawn, drawn.randrange(4))
            if turn_of(rule) <= 1000:
                for count in range(8):
                    first = drawn.randrange(-1500, 1500)
                    self.assert_count(rule, first, first + drawn.randrange(-50, 400))


class NthDays(SearchCase):
    def test_the_first_is_the_next(self):
        for rule in KINDS + (ONCE, OVER) + WITHOUT_DAYS:
            for day in (-HUGE, -73, -1, 0, 8, 71, HUGE):
                self.assertEqual(nth_day(rule, day, 1), next_day(rule, day))

    def test_each_is_the_next_behind_the_one_before(self):
        for rule in (KINDS[1], KINDS[7], KINDS[-2], KINDS[-1], ONCE, OVER):
            for day in (-100, -1, 0, 71, HUGE):
                before = day
                for many in range(1, 60):
                    before = next_day(rule, before)
                    self.assertEqual(nth_day(rule, day, many), before, (rule, day, many))

    def test_days_as_told(self):
        self.assertEqual([nth_day(("every", 5, -3), -4, many) for many in (1, 2, 3, 11)], [-3, 2, 7, 47])
        self.assertEqual([nth_day(("every", 5, -3), -3, many) for many in (1, 2, 3, 11)], [2, 7, 12, 52])
        self.assertEqual([nth_day(("date", 36), -73, many) for many in (1, 2, 3)], [-2, 70, 142])

    def test_beyond_many_turns(self):
        for rule in KINDS + (FAR, ONCE, OVER):
            turn = turn_of(rule)
            once = len([day for day in range(turn) if has_day(rule, day)])
            for turns in (1, 10 ** 12, 10 ** 96):
                for day in (-40, -1, 0, 35, -turn * turns, HUGE):
                    for many in (1, 2, 3, once, once + 1):
                        far = nth_day(rule, day, many + once * turns)
                        self.assertEqual(far, nth_day(rule, day, many) + turn * turns, (rule, day, many))

    def test_so_many_days_lie_up_to_it(self):
        for rule in KINDS + (FAR, ONCE, OVER):
            for day in (-HUGE, -1, 0, 17):
                for many in (1, 7, 10 ** 12 + 1, 10 ** 100 - 1):
                    found = nth_day(rule, day, many)
                    self.assertIs(has_day(rule, found), True)
                    self.assertEqual(how_many(rule, day + 1, found), many)

    def test_numbers_of_a_hundred_figures(self):
        most = 10 ** 100 - 1
        self.assertEqual(nth_day(ALL, -most, most), 0)
        self.assertEqual(nth_day(ALL, most, most), 2 * most)
        self.assertEqual(nth_day(("every", 60, 0), 0, most), 60 * most)
        self.assertEqual(nth_day(("date", 37), -1, most), 72 * most - 1)

    def test_rules_without_a_day(self):
        for rule in WITHOUT_DAYS:
            for many in (1, 2, 9, 10 ** 12, 10 ** 100 - 1):
                for day in (-HUGE, 0, 35, HUGE):
                    self.assertIsNone(nth_day(rule, day, many), rule)

    def test_numbers_below_one(self):
        for rule in KINDS + (ONCE, OVER) + WITHOUT_DAYS:
            for many in (0, -1, -2, -72, -10 ** 12, 1 - 10 ** 100):
                for day in (-HUGE, -1, 0, 35, HUGE):
                    with self.assertRaises(NoCount, msg=(rule, day, many)):
                        nth_day(rule, day, many)

    def test_the_kind_of_the_answer(self):
        for rule in KINDS:
            self.assertIs(type(nth_day(rule, 0, 3)), int)


class AtTheBounds(unittest.TestCase):
    SHUNNED = (("every", 60, 7), ("date", 3), ("but", ALL, ("every", 56, 9)), ("nth", -1, 8))

    def deep(self, kind, rule, depth):
        for step in range(depth):
            rule = (kind, rule, self.SHUNNED[step % 4]) if step % 3 else (kind, rule, rule[2])
        return rule

    def test_a_hundred_deep_and_beyond_with_a_turn_near_ten_thousand(self):
        start = ("either", ("both", ("every", 27, 3), ("every", 5, 1)), ("every", 56, 3))
        for kind in ("both", "either", "but", "moved"):
            for depth in (100, 130):
                rule = self.deep(kind, start, depth)
                self.assertEqual(turn_of(rule), 7560)
                days = [day for day in range(-40, 41) if has_day(rule, day)]
                self.assertEqual(how_many(rule, -40, 40), len(days))
                found = next_day(rule, HUGE)
                if how_many(rule, 0, 7559) == 0:
                    self.assertIsNone(found)
                else:
                    self.assertIs(has_day(rule, found), True)
                    self.assertEqual(how_many(rule, HUGE + 1, found), 1)
                    self.assertEqual(day_ahead(rule, found + 1), found)

    def test_all_days_of_a_great_turn(self):
        rule = ("moved", ("either", ("every", 27, 0), ("date", 8)), ("either", ("every", 40, 1), ("every", 35, 4)))
        rule = ("but", rule, ("both", ("every", 5, 0), ("every", 8, 0)))
        self.assertEqual(turn_of(rule), 7560)
        counted = counted_days(rule)
        days = [day for day in range(7560) if day in counted]
        self.assertEqual(how_many(rule, 0, 7559), len(days))
        self.assertEqual([nth_day(rule, -1, many) for many in range(1, 40)], days[:39])
        self.assertEqual(nth_day(rule, -1, len(days)), days[-1])
        self.assertEqual(day_ahead(rule, 7560), days[-1])
        self.assertEqual(day_ahead(rule, 0), days[-1] - 7560)

    def test_a_turn_somewhat_beyond_ten_thousand(self):
        rule = ("either", ("both", ("every", 11, 4), ("every", 7, 3)), ("both", ("date", 3), ("every", 25, 1)))
        self.assertEqual(turn_of(rule), 138600)
        once = 138600 // 77 + how_many(("both", ("date", 3), ("every", 25, 1)), 0, 1799) * 77
        both = ("both", rule[1], rule[2])
        self.assertEqual(how_many(rule, 0, 138599), once - how_many(both, 0, 138599))
        self.assertEqual(next_day(rule, 138600 * 10 ** 90 + 37), 138600 * 10 ** 90 + next_day(rule, 37))


if __name__ == "__main__":
    unittest.main()
