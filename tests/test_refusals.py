"""Point [4]: rules with wrong numbers are refused with NoRule, ahead of all else."""

import unittest

from fairdays.diary import leaf
from fairdays.errors import NoCount, NoRule
from fairdays.lines import read, shown
from fairdays.rules import has_day, turn_of
from fairdays.search import day_ahead, how_many, next_day, nth_day

WRONG = (
    ("every", 0, 0),
    ("every", 61, 0),
    ("every", -1, 0),
    ("every", -5, 3),
    ("every", -60, 0),
    ("every", 10 ** 99, 0),
    ("date", 0),
    ("date", 38),
    ("date", -38),
    ("date", 10 ** 99),
    ("date", -10 ** 99),
    ("nth", 0, 3),
    ("nth", 6, 3),
    ("nth", -6, 3),
    ("nth", 1, -1),
    ("nth", 1, 9),
    ("nth", -5, -1),
    ("nth", -5, 9),
    ("nth", 6, 9),
)
RIGHT = (
    ("every", 1, 0),
    ("every", 60, 0),
    ("every", 60, 10 ** 100 - 1),
    ("every", 60, 1 - 10 ** 100),
    ("every", 7, 10 ** 110),
    ("date", 1),
    ("date", 37),
    ("date", -1),
    ("date", -37),
    ("nth", 1, 0),
    ("nth", 5, 8),
    ("nth", -1, 0),
    ("nth", -5, 8),
)
ALL = ("every", 1, 0)
NONE = ("but", ALL, ALL)


# Each function that takes rules, in all the ways in which it could answer without looking at the whole rule.
ASKED = (
    (lambda rule: has_day(rule, -1)),
    (lambda rule: has_day(rule, 0)),
    (lambda rule: has_day(rule, 1)),
    (lambda rule: has_day(rule, 10 ** 99)),
    (lambda rule: turn_of(rule)),
    (lambda rule: next_day(rule, 0)),
    (lambda rule: next_day(rule, -10 ** 99)),
    (lambda rule: day_ahead(rule, 0)),
    (lambda rule: day_ahead(rule, 10 ** 99)),
    (lambda rule: how_many(rule, 0, 0)),
    (lambda rule: how_many(rule, -10 ** 99, 10 ** 99)),
    (lambda rule: how_many(rule, 0, -1)),
    (lambda rule: nth_day(rule, 0, 1)),
    (lambda rule: nth_day(rule, 0, 0)),
    (lambda rule: nth_day(rule, 0, -1)),
    (lambda rule: nth_day(rule, 10 ** 99, -10 ** 99)),
    (lambda rule: shown(rule)),
    (lambda rule: leaf([("a", rule)], 0, 0)),
    (lambda rule: leaf([("a", rule)], 0, -1)),
    (lambda rule: leaf([("a", ALL), ("b", NONE), ("c", rule)], 0, 9)),
    (lambda rule: leaf([("a", ALL), ("b", rule), ("c", NONE)], 0, -10 ** 99)),
    (lambda rule: leaf([("a", rule)] + [("b", ALL)] * 19, 5, 4)),
    (lambda rule: leaf([("b", ALL)] * 19 + [("a", rule)], 5, 4)),
)


class Refusals(unittest.TestCase):
    def assert_refused(self, rule):
        for place, asked in enumerate(ASKED):
            with self.assertRaises(NoRule, msg=(place, rule)):
                asked(rule)

    def test_alone(self):
        for wrong in WRONG:
            self.assert_refused(wrong)

    def test_on_either_side_of_a_pair(self):
        for wrong in WRONG:
            for kind in ("both", "either", "but", "moved"):
                for right in (ALL, NONE, ("every", 2, 0), ("date", 3)):
                    self.assert_refused((kind, right, wrong))
                    self.assert_refused((kind, wrong, right))

    def test_where_the_answer_would_not_need_the_wrong_part(self):
        for wrong in WRONG:
            self.assert_refused(("both", NONE, wrong))
            self.assert_refused(("either", ALL, wrong))
            self.assert_refused(("but", NONE, wrong))
            self.assert_refused(("moved", wrong, ALL))
            self.assert_refused(("moved", NONE, ("either", ALL, wrong)))
            self.assert_refused(("both", ("both", NONE, wrong), ALL))

    def test_a_hundred_deep(self):
        for wrong in WRONG:
            for kind in ("both", "either", "but", "moved"):
                left, right = wrong, wrong
                for step in range(100):
                    left, right = (kind, left, ALL), (kind, NONE, right)
                self.assert_refused(left)
                self.assert_refused(right)


class WholeDiaries(unittest.TestCase):
    def test_a_wrong_rule_in_each_place(self):
        for place in range(20):
            diary = [("right", ALL)] * 20
            diary[place] = ("wrong", ("both", NONE, ("date", 38)))
            for first, last in ((0, 999), (0, 0), (0, -1), (10 ** 99, -10 ** 99)):
                with self.assertRaises(NoRule):
                    leaf(diary, first, last)


class NoRefusals(unittest.TestCase):
    def assert_taken(self, rule):
        for place, asked in enumerate(ASKED):
            try:
                asked(rule)
            except NoCount:
                self.assertIn(place, (13, 14, 15), rule)
        self.assertIn(has_day(rule, 0), (True, False))
        self.assertGreater(turn_of(rule), 0)
        self.assertEqual(read(shown(rule)), rule)

    def test_numbers_at_the_bounds(self):
        for right in RIGHT:
            self.assert_taken(right)

    def test_numbers_at_the_bounds_within_rules(self):
        for right in RIGHT:
            for kind in ("both", "either", "but", "moved"):
                self.assert_taken((kind, right, ("every", 2, 0)))
                self.assert_taken((kind, ("every", 2, 0), right))

    def test_all_numbers_within_the_bounds(self):
        for many in range(1, 61):
            self.assert_taken(("every", many, -many))
        for date in range(1, 38):
            self.assert_taken(("date", date))
            self.assert_taken(("date", -date))
        for weekday in range(9):
            for which in range(1, 6):
                self.assert_taken(("nth", which, weekday))
                self.assert_taken(("nth", -which, weekday))


if __name__ == "__main__":
    unittest.main()
