"""Point [4]: which days a rule has."""

import copy
import random
import unittest

from counted import LEAST, MOST, days_of
from fairdays.rules import has_day, turn_of

HUGE = 10 ** 99
ALL = ("every", 1, 0)
NONE = ("but", ALL, ALL)


def days_within(rule, first, last):
    return [day for day in range(first, last + 1) if has_day(rule, day)]


def one_of_turn(many, *days):
    """A rule whose days are the given ones and those that lie whole turns of `many` days from them."""
    rule = ("every", many, days[0])
    for day in days[1:]:
        rule = ("either", rule, ("every", many, day))
    return rule


class RuleCase(unittest.TestCase):
    def assert_counted(self, rule, first=LEAST, last=MOST):
        counted = days_of(rule)
        expected = [day for day in range(first, last + 1) if day in counted]
        self.assertEqual(days_within(rule, first, last), expected, rule)


class Every(RuleCase):
    def test_days_on_both_sides_of_nought(self):
        self.assertEqual(days_within(("every", 5, -3), -14, 13), [-13, -8, -3, 2, 7, 12])
        self.assertEqual(days_within(("every", 7, 4), -20, 20), [-17, -10, -3, 4, 11, 18])

    def test_the_start_may_lie_far_from_the_days(self):
        self.assertEqual(days_within(("every", 10, 1003), -20, 20), [-17, -7, 3, 13])
        self.assertEqual(days_within(("every", 10, -1003), -20, 20), [-13, -3, 7, 17])

    def test_every_day(self):
        self.assertEqual(days_within(("every", 1, 77), -3, 3), [-3, -2, -1, 0, 1, 2, 3])

    def test_a_start_of_many_figures(self):
        for start in (HUGE + 1, -HUGE + 1):
            rule = ("every", 60, start)
            self.assertIs(has_day(rule, start), True)
            self.assertIs(has_day(rule, start + 1), False)
            self.assertIs(has_day(rule, start - 60), True)
            self.assertIs(has_day(rule, start + 60 * 10 ** 97), True)
            self.assertIs(has_day(rule, start + 60 * 10 ** 97 + 59), False)
        # What is left of 10 ** 99 when sixties are taken off is 40.
        self.assertEqual(days_within(("every", 60, HUGE), -60, 60), [-20, 40])
        self.assertEqual(days_within(("every", 60, -HUGE), -60, 60), [-40, 20])

    def test_all_numbers_of_days(self):
        for many in range(1, 61):
            self.assert_counted(("every", many, 17), -200, 200)
            self.assert_counted(("every", many, -17), -200, 200)


class Date(RuleCase):
    # Months -2 to 1 begin with the days -72, -37, 0 and 35.
    def assert_days(self, date, days):
        self.assertEqual(days_within(("date", date), -72, 71), days)

    def test_from_the_first_day(self):
        self.assert_days(1, [-72, -37, 0, 35])
        self.assert_days(12, [-61, -26, 11, 46])

    def test_the_last_dates_of_short_and_long_months(self):
        self.assert_days(35, [-38, -3, 34, 69])
        self.assert_days(36, [-2, 70])
        self.assert_days(37, [-1, 71])

    def test_from_the_last_day(self):
        self.assert_days(-1, [-38, -1, 34, 71])
        self.assert_days(-2, [-39, -2, 33, 70])

    def test_the_first_dates_counted_back(self):
        self.assert_days(-35, [-72, -35, 0, 37])
        self.assert_days(-36, [-36, 36])
        self.assert_days(-37, [-37, 35])

    def test_all_dates(self):
        for date in range(1, 38):
            self.assert_counted(("date", date), -300, 300)
            self.assert_counted(("date", -date), -300, 300)


class Nth(RuleCase):
    # An even month has weekday 8 three times, the others four times; an odd
    # month has weekday 8 five times, the others four times.
    def assert_days(self, which, weekday, days):
        self.assertEqual(days_within(("nth", which, weekday), -72, 71), days)

    def test_three_or_five_days_in_a_month(self):
        self.assert_days(1, 8, [-64, -37, 8, 35])
        self.assert_days(2, 8, [-55, -28, 17, 44])
        self.assert_days(3, 8, [-46, -19, 26, 53])
        self.assert_days(4, 8, [-10, 62])
        self.assert_days(5, 8, [-1, 71])

    def test_three_or_five_days_counted_back(self):
        self.assert_days(-1, 8, [-46, -1, 26, 71])
        self.assert_days(-2, 8, [-55, -10, 17, 62])
        self.assert_days(-3, 8, [-64, -19, 8, 53])
        self.assert_days(-4, 8, [-28, 44])
        self.assert_days(-5, 8, [-37, 35])

    def test_four_days_in_a_month(self):
        self.assert_days(1, 0, [-72, -36, 0, 36])
        self.assert_days(4, 0, [-45, -9, 27, 63])
        self.assert_days(5, 0, [])
        self.assert_days(-1, 0, [-45, -9, 27, 63])
        self.assert_days(-4, 0, [-72, -36, 0, 36])
        self.assert_days(-5, 0, [])

    def test_all_numbers_and_weekdays(self):
        for weekday in range(9):
            for which in range(1, 6):
                self.assert_counted(("nth", which, weekday), -300, 300)
                self.assert_counted(("nth", -which, weekday), -300, 300)


class Pairs(RuleCase):
    def test_both(self):
        self.assertEqual(days_within(("both", ("every", 2, 0), ("every", 3, 0)), -9, 9), [-6, 0, 6])

    def test_either(self):
        self.assertEqual(
            days_within(("either", ("every", 2, 0), ("every", 3, 0)), -6, 6), [-6, -4, -3, -2, 0, 2, 3, 4, 6])

    def test_but(self):
        self.assertEqual(days_within(("but", ("every", 2, 0), ("every", 3, 0)), -8, 8), [-8, -4, -2, 2, 4, 8])
        self.assertEqual(days_within(("but", ("every", 3, 0), ("every", 2, 0)), -9, 9), [-9, -3, 3, 9])

    def test_a_rule_without_days(self):
        self.assertEqual(days_within(("both", ("every", 2, 0), ("every", 2, 1)), -100, 100), [])
        self.assertEqual(days_within(NONE, -100, 100), [])

    def test_kinds_of_rules_together(self):
        self.assert_counted(("both", ("every", 10, 0), ("date", 3)))
        self.assert_counted(("either", ("nth", -1, 8), ("date", -36)))
        self.assert_counted(("but", ("date", -37), ("nth", 1, 8)))


class Moved(RuleCase):
    def test_the_example_of_the_document(self):
        rule = ("moved", one_of_turn(20, 2, 4, 5), one_of_turn(20, 3, 4, 5))
        self.assertEqual(days_within(rule, 0, 19), [2, 6])
        self.assertEqual(days_within(rule, -20, -1), [-18, -14])

    def test_a_day_that_is_not_shunned_stays(self):
        self.assertEqual(days_within(("moved", ("every", 9, 0), ("every", 9, 1)), -10, 10), [-9, 0, 9])

    def test_two_days_that_come_to_one(self):
        rule = ("moved", one_of_turn(10, 1, 2), one_of_turn(10, 1, 2))
        self.assertEqual(days_within(rule, -10, 9), [-7, 3])

    def test_a_day_that_comes_to_a_day_of_the_rule(self):
        rule = ("moved", one_of_turn(10, 1, 2), ("every", 10, 1))
        self.assertEqual(days_within(rule, -10, 9), [-8, 2])

    def test_the_day_behind_shunned_days_without_a_day_of_the_rule_is_not_had(self):
        rule = ("moved", ("every", 10, 0), one_of_turn(10, 3, 4, 5))
        self.assertEqual(days_within(rule, -10, 9), [-10, 0])

    def test_a_day_ahead_of_the_shunned_ones_does_not_move(self):
        rule = ("moved", ("every", 10, 2), one_of_turn(10, 3, 4, 5))
        self.assertEqual(days_within(rule, -10, 9), [-8, 2])

    def test_no_day_is_shunned(self):
        self.assertEqual(days_within(("moved", ("every", 7, 3), NONE), -10, 10), [-4, 3, 10])

    def test_all_days_are_shunned(self):
        self.assertEqual(days_within(("moved", ("every", 7, 3), ALL), -100, 100), [])
        all_days = ("either", ("every", 2, 0), ("every", 2, 1))
        self.assertEqual(days_within(("moved", ALL, all_days), -100, 100), [])

    def test_the_rule_has_no_day(self):
        self.assertEqual(days_within(("moved", NONE, ("every", 2, 0)), -100, 100), [])

    def test_a_long_run_of_shunned_days(self):
        shunned = ("but", ALL, ("every", 60, 59))
        rule = ("moved", ("every", 60, 0), shunned)
        self.assertEqual(days_within(rule, -60, 59), [-1, 59])
        self.assertEqual(days_within(("moved", ("every", 60, 59), shunned), -60, 59), [-1, 59])

    def test_a_run_of_shunned_days_over_nearly_a_whole_turn(self):
        # Of 2520 days one alone is not shunned: the last.
        shunned = ("but", ALL, ("both", ("every", 56, 55), ("every", 45, 44)))
        once = ("both", ("every", 56, 0), ("every", 45, 0))
        self.assertEqual(turn_of(shunned), 2520)
        for rule in (("moved", once, shunned), ("moved", ALL, shunned)):
            self.assertEqual(days_within(rule, -2520, 2519), [-1, 2519])

    def test_days_move_over_the_bounds_of_months_and_turns(self):
        self.assert_counted(("moved", ("date", -1), ("either", ("date", -1), ("date", 1))))
        self.assert_counted(("moved", ("nth", 5, 8), ("either", ("date", -1), ("every", 2, 0))))

    def test_moved_days_are_shunned_anew(self):
        once = ("moved", ("every", 8, 0), ("every", 4, 0))
        twice = ("moved", once, ("either", ("every", 8, 1), ("every", 8, 2)))
        self.assertEqual(days_within(once, -8, 7), [-7, 1])
        self.assertEqual(days_within(twice, -8, 7), [-5, 3])

    def test_moved_days_as_those_to_be_shunned(self):
        shunned = ("moved", ("every", 6, 0), ("every", 6, 0))
        self.assertEqual(days_within(("moved", ("every", 3, 1), shunned), -6, 5), [-4, -2, 2, 4])


class Deep(RuleCase):
    def nested(self, kind, rule, others, depth):
        for step in range(depth):
            rule = (kind, rule, others[step % len(others)])
        return rule

    def test_a_hundred_deep_on_the_left(self):
        rule = self.nested("either", ("every", 50, 7), (("date", 3), ("nth", 2, 4)), 100)
        self.assert_counted(rule, -400, 400)

    def test_a_hundred_deep_on_the_right(self):
        rule = ("date", 5)
        for step in range(100):
            rule = ("but", ("every", 3 + step % 2, 1), rule)
        self.assert_counted(rule, -400, 400)

    def test_somewhat_deeper_is_not_refused(self):
        rule = self.nested("both", ("every", 2, 0), (("every", 3, 0), ALL), 130)
        self.assertEqual(days_within(rule, -9, 9), [-6, 0, 6])
        self.assertEqual(turn_of(rule), 6)

    def test_moved_rules_a_hundred_deep(self):
        shunned = [("but", ALL, ("every", 60, step * 7)) for step in range(5)]
        rule = self.nested("moved", ("date", 12), shunned, 100)
        self.assertEqual(turn_of(rule), 360)
        self.assert_counted(rule, -60, 60)
        self.assertEqual(days_within(rule, 300, 420), [day + 360 for day in days_within(rule, -60, 60)])

    def test_shunned_days_a_hundred_deep(self):
        rule = ("every", 12, 5)
        for step in range(100):
            rule = ("moved", ("either", ("every", 8, step), ("date", 1 + step % 35)), rule)
        self.assert_counted(rule, -60, 60)

    def test_moved_rules_on_both_sides(self):
        rule = ("every", 4, 0)
        for step in range(6):
            rule = ("moved", rule, ("but", ("every", 2, step), rule))
        self.assert_counted(rule, -40, 40)

    def test_days_of_a_hundred_figures(self):
        rule = ("moved", ("both", ("every", 10, 0), ("date", 3)), ("nth", 1, 2))
        counted = days_of(rule)
        for far in (360 * 10 ** 97, -360 * 10 ** 97):
            for day in range(0, 360):
                self.assertIs(has_day(rule, far + day), day in counted, day)

    def test_rules_drawn_with_a_fixed_seed(self):
        drawn = random.Random(20)
        for step in range(100):
            rule = drawn_rule(drawn, drawn.randrange(5))
            if turn_of(rule) <= 2520:
                self.assert_counted(rule, -150, 150)


def drawn_rule(drawn, depth):
    if depth == 0:
        return drawn.choice([
            ("every", drawn.choice([1, 2, 3, 4, 5, 6, 7, 8, 12, 36, 60]), drawn.randrange(-99, 99)),
            ("date", drawn.choice([-1, 1]) * drawn.randrange(1, 38)),
            ("nth", drawn.choice([-1, 1]) * drawn.randrange(1, 6), drawn.randrange(9)),
        ])
    kind = drawn.choice(["both", "either", "but", "moved", "moved"])
    return (kind, drawn_rule(drawn, depth - 1), drawn_rule(drawn, drawn.randrange(depth)))


class Answers(unittest.TestCase):
    RULES = (
        ("every", 5, -3),
        ("date", 12),
        ("date", -36),
        ("nth", 2, 4),
        ("nth", -4, 8),
        ("both", ("every", 2, 0), ("date", 3)),
        ("either", ("every", 2, 0), ("date", 3)),
        ("but", ("every", 2, 0), ("date", 3)),
        ("moved", ("every", 2, 0), ("date", 3)),
    )

    def test_answers_are_true_or_false(self):
        for rule in self.RULES:
            answers = [has_day(rule, day) for day in range(-80, 80)]
            self.assertEqual({type(answer) for answer in answers}, {bool}, rule)
            self.assertEqual(set(answers), {True, False}, rule)

    def test_a_rule_is_the_same_behind_the_call(self):
        for rule in self.RULES:
            kept = copy.deepcopy(rule)
            before = repr(rule)
            for day in range(-80, 80):
                has_day(rule, day)
            turn_of(rule)
            self.assertEqual(rule, kept)
            self.assertEqual(repr(rule), before)

    def test_one_call_leaves_nothing_for_the_next(self):
        for rule in self.RULES:
            first = [has_day(rule, day) for day in range(-80, 80)]
            again = [has_day(rule, day) for day in reversed(range(-80, 80))]
            self.assertEqual(first, again[::-1])


if __name__ == "__main__":
    unittest.main()
