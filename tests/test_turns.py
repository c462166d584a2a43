"""Point [5]: the turn of a rule."""

import unittest

from fairdays.rules import has_day, turn_of

PAIRS = ("both", "either", "but", "moved")


class Turns(unittest.TestCase):
    def test_every(self):
        for many in range(1, 61):
            self.assertEqual(turn_of(("every", many, 5)), many)
            self.assertEqual(turn_of(("every", many, -10 ** 99)), many)

    def test_date(self):
        for date in (1, 12, 35, 36, 37, -1, -35, -36, -37):
            self.assertEqual(turn_of(("date", date)), 72)

    def test_nth(self):
        for which in (1, 5, -1, -5):
            for weekday in (0, 8):
                self.assertEqual(turn_of(("nth", which, weekday)), 72)

    def test_the_example_of_the_document(self):
        self.assertEqual(turn_of(("both", ("every", 10, 0), ("date", 3))), 360)

    def test_the_turn_of_a_pair_is_the_least_that_both_go_into(self):
        for kind in PAIRS:
            self.assertEqual(turn_of((kind, ("every", 4, 0), ("every", 6, 0))), 12)
            self.assertEqual(turn_of((kind, ("every", 6, 1), ("every", 4, 2))), 12)
            self.assertEqual(turn_of((kind, ("every", 7, 0), ("every", 8, 0))), 56)
            self.assertEqual(turn_of((kind, ("every", 5, 0), ("every", 60, 0))), 60)
            self.assertEqual(turn_of((kind, ("every", 60, 0), ("every", 60, 9))), 60)
            self.assertEqual(turn_of((kind, ("nth", 1, 0), ("every", 1, 0))), 72)
            self.assertEqual(turn_of((kind, ("date", 1), ("nth", 1, 0))), 72)
            self.assertEqual(turn_of((kind, ("nth", 1, 0), ("every", 48, 0))), 144)

    def test_all_pairs_of_numbers_of_days(self):
        for many in range(1, 61):
            for other in range(1, 61):
                least = next(days for days in range(many, many * other + 1, many) if days % other == 0)
                self.assertEqual(turn_of(("both", ("every", many, 0), ("every", other, 0))), least)

    def test_rules_that_have_less_than_their_turn_or_no_day(self):
        self.assertEqual(turn_of(("either", ("every", 2, 0), ("every", 2, 1))), 2)
        self.assertEqual(turn_of(("but", ("every", 6, 0), ("every", 3, 0))), 6)
        self.assertEqual(turn_of(("moved", ("date", 3), ("every", 1, 0))), 72)

    def test_deeper_rules(self):
        rule = ("either", ("but", ("every", 8, 0), ("every", 12, 4)), ("both", ("every", 7, 0), ("every", 10, 1)))
        self.assertEqual(turn_of(rule), 840)
        self.assertEqual(turn_of(("moved", rule, ("nth", -1, 8))), 2520)
        self.assertEqual(turn_of(("both", ("every", 11, 0), ("moved", ("date", 1), rule))), 27720)

    def test_a_hundred_deep(self):
        for kind in PAIRS:
            left, right = ("every", 4, 0), ("every", 9, 0)
            for step in range(100):
                left = (kind, left, ("every", 1 + step % 10, 0))
                right = (kind, ("every", 1 + step % 10, 0), right)
            self.assertEqual(turn_of(left), 2520)
            self.assertEqual(turn_of(right), 2520)

    def test_the_kind_of_the_answer(self):
        self.assertIs(type(turn_of(("both", ("every", 4, 0), ("every", 6, 0)))), int)


class ComingAgain(unittest.TestCase):
    RULES = (
        ("every", 13, 5),
        ("date", 36),
        ("date", -36),
        ("nth", 4, 8),
        ("nth", -5, 8),
        ("both", ("every", 10, 0), ("date", 3)),
        ("either", ("every", 10, 0), ("nth", 3, 8)),
        ("but", ("every", 5, 2), ("date", -3)),
        ("moved", ("every", 7, 0), ("nth", 2, 5)),
        ("moved", ("date", -1), ("but", ("every", 1, 0), ("every", 50, 49))),
        ("but", ("every", 1, 0), ("moved", ("either", ("date", 7), ("every", 4, 1)), ("every", 3, 1))),
        ("moved", ("moved", ("every", 5, 0), ("every", 2, 1)), ("either", ("date", 1), ("date", -1))),
    )

    def test_a_day_is_had_just_where_the_day_a_turn_later_is(self):
        for rule in self.RULES:
            turn = turn_of(rule)
            for day in range(-turn, turn):
                had = has_day(rule, day)
                self.assertIs(has_day(rule, day + turn), had, (rule, day))

    def test_also_many_turns_later(self):
        for rule in self.RULES:
            far = turn_of(rule) * 10 ** 96
            for day in range(-80, 80):
                had = has_day(rule, day)
                self.assertIs(has_day(rule, day + far), had, (rule, day))
                self.assertIs(has_day(rule, day - far), had, (rule, day))

    def test_a_turn_near_ten_thousand(self):
        rule = ("moved", ("either", ("every", 5, 0), ("date", 8)), ("both", ("every", 3, 1), ("every", 28, 4)))
        rule = ("but", rule, ("every", 27, 0))
        self.assertEqual(turn_of(rule), 7560)
        for day in range(-400, 400):
            self.assertIs(has_day(rule, day + 7560), has_day(rule, day))


if __name__ == "__main__":
    unittest.main()
