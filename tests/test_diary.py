"""Point [12]: the leaf of a diary."""

import copy
import random
import unittest

from counted import days_of
from fairdays.diary import leaf
from fairdays.rules import turn_of
from test_rules import drawn_rule

HUGE = 10 ** 99
ALL = ("every", 1, 0)
NONE = ("but", ALL, ALL)
FAIRS = [
    ("fair", ("every", 5, -3)),
    ("market", ("date", 3)),
    ("feast", ("moved", ("every", 10, 2), ("every", 5, 2))),
    ("never", NONE),
]


def counted_leaf(diary, first, last):
    """The leaf, with the days of each rule counted one by one."""
    counted = [(name, days_of(rule)) for name, rule in diary]
    lines = [(day, [name for name, days in counted if day in days]) for day in range(first, last + 1)]
    return [line for line in lines if line[1]]


class Leaves(unittest.TestCase):
    def assert_counted(self, diary, first, last):
        self.assertEqual(leaf(diary, first, last), counted_leaf(diary, first, last))

    def test_days_that_none_one_and_several_rules_have(self):
        self.assertEqual(leaf(FAIRS, 1, 8), [(2, ["fair", "market"]), (3, ["feast"]), (7, ["fair"])])
        self.assertEqual(leaf(FAIRS, -9, -3), [(-8, ["fair"]), (-7, ["feast"]), (-3, ["fair"])])

    def test_both_days_are_looked_at(self):
        self.assertEqual(leaf(FAIRS, 2, 7), [(2, ["fair", "market"]), (3, ["feast"]), (7, ["fair"])])
        self.assertEqual(leaf(FAIRS, 3, 6), [(3, ["feast"])])
        self.assertEqual(leaf(FAIRS, 4, 6), [])

    def test_one_day(self):
        self.assertEqual(leaf(FAIRS, 2, 2), [(2, ["fair", "market"])])
        self.assertEqual(leaf(FAIRS, 1, 1), [])
        self.assertEqual(leaf([("a", ALL)], -1, -1), [(-1, ["a"])])

    def test_the_last_is_the_lesser(self):
        for first, last in ((3, 2), (0, -1), (2, -3), (1000, 0), (HUGE, -HUGE)):
            self.assertEqual(leaf(FAIRS, first, last), [])
            self.assertEqual(leaf([("a", ALL)], first, last), [])
            self.assertEqual(leaf([], first, last), [])

    def test_an_empty_diary(self):
        for first, last in ((0, 0), (-10, 10), (HUGE, HUGE + 999)):
            self.assertEqual(leaf([], first, last), [])

    def test_rules_without_a_day(self):
        self.assertEqual(leaf([("never", NONE), ("nor", ("both", ("date", 1), ("date", 2)))], -500, 499), [])

    def test_the_same_name_twice(self):
        diary = [("fair", ("every", 2, 0)), ("market", ("every", 4, 0)), ("fair", ("every", 3, 0))]
        self.assertEqual(leaf(diary, 0, 4),
                         [(0, ["fair", "market", "fair"]), (2, ["fair"]), (3, ["fair"]), (4, ["fair", "market"])])

    def test_the_same_pair_twice(self):
        pair = ("fair", ("every", 2, 0))
        self.assertEqual(leaf([pair, pair], 0, 2), [(0, ["fair", "fair"]), (2, ["fair", "fair"])])

    def test_an_empty_name_and_others(self):
        diary = [("", ("every", 2, 0)), (" ", ("every", 3, 0)), ("F\u00eate\n", ("every", 3, 0))]
        self.assertEqual(leaf(diary, 2, 6), [(2, [""]), (3, [" ", "F\u00eate\n"]), (4, [""]), (6, ["", " ", "F\u00eate\n"])])

    def test_names_stand_in_the_order_of_the_diary(self):
        diary = [("z", ALL), ("b", ALL), ("a", ("every", 2, 0)), ("y", ALL)]
        self.assertEqual(leaf(diary, 0, 1), [(0, ["z", "b", "a", "y"]), (1, ["z", "b", "y"])])
        self.assertEqual(leaf(diary[::-1], 0, 1), [(0, ["y", "a", "b", "z"]), (1, ["y", "b", "z"])])

    def test_days_rise(self):
        diary = [("late", ("every", 60, 50)), ("early", ("every", 60, 10)), ("before", ("every", 60, -20))]
        self.assertEqual(leaf(diary, -60, 59), [
            (-50, ["early"]), (-20, ["before"]), (-10, ["late"]), (10, ["early"]), (40, ["before"]), (50, ["late"])])

    def test_against_days_counted_one_by_one(self):
        self.assert_counted(FAIRS, -500, 499)
        self.assert_counted(FAIRS + [("last", ("date", -36)), ("nth", ("nth", 4, 8))], -100, 300)

    def test_days_of_a_hundred_figures(self):
        near = leaf(FAIRS, -40, 80)
        for far in (360 * 10 ** 97, -360 * 10 ** 97):
            self.assertEqual(leaf(FAIRS, far - 40, far + 80), [(day + far, names) for day, names in near])

    def test_twenty_rules_and_a_thousand_days(self):
        drawn = random.Random(12)
        diary = []
        while len(diary) < 20:
            rule = drawn_rule(drawn, drawn.randrange(4))
            if turn_of(rule) <= 1000:
                diary.append((f"name {len(diary) % 15}", rule))
        self.assert_counted(diary, -500, 499)
        self.assert_counted(diary[::-1], -1000, -1)

    def test_twenty_deep_rules_with_great_turns_and_a_thousand_days(self):
        diary = []
        for place in range(20):
            rule = ("either", ("both", ("every", 27, place), ("every", 5, 1)), ("every", 56, place))
            for step in range(100):
                rule = ("moved" if step % 2 else "either", rule, ("every", 60, place + step * 7))
            diary.append((str(place), rule))
        self.assertEqual(turn_of(diary[0][1]), 7560)
        first = 7560 * 10 ** 96
        far = leaf(diary, first, first + 999)
        self.assertEqual([(day - first, names) for day, names in far], leaf(diary, 0, 999))
        self.assertGreater(len(far), 0)

    def test_somewhat_more_rules_and_days_are_not_refused(self):
        diary = [(str(place), ("every", 30, place)) for place in range(30)]
        self.assertEqual(leaf(diary, 0, 1499), [(day, [str(day % 30)]) for day in range(1500)])

    def test_the_kinds_of_the_answer(self):
        answer = leaf(FAIRS, 0, 30)
        self.assertIs(type(answer), list)
        for line in answer:
            self.assertEqual([type(value) for value in (line,) + line], [tuple, int, list])
            self.assertEqual({type(name) for name in line[1]}, {str})

    def test_the_lists_of_names_are_their_own(self):
        diary = [("a", ALL), ("b", ("every", 2, 0))]
        answer = leaf(diary, 0, 3)
        for line in answer:
            line[1].append("more")
        self.assertEqual(leaf(diary, 0, 1), [(0, ["a", "b"]), (1, ["a"])])
        self.assertEqual(answer[1], (1, ["a", "more"]))
        self.assertEqual(answer[3], (3, ["a", "more"]))

    def test_the_diary_is_the_same_behind_the_call(self):
        for diary in ([], FAIRS, FAIRS + FAIRS):
            kept = copy.deepcopy(diary)
            pairs = list(diary)
            leaf(diary, -50, 50)
            leaf(diary, 50, -50)
            self.assertEqual(diary, kept)
            self.assertTrue(all(pair is other for pair, other in zip(diary, pairs)))


if __name__ == "__main__":
    unittest.main()
