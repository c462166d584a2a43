"""Point [9]: the common days of two rules `every`."""

import random
import unittest

from fairdays.common import common_days
from fairdays.divisors import inverse_of
from fairdays.errors import NoRule
from fairdays.rules import has_day
from fairdays.search import next_day

FIFTY = 10 ** 49 + 9
OTHER_FIFTY = 10 ** 49 + 8
MOST = 10 ** 100 - 1


def searched(many, start, other_many, other_start):
    """The common days from nought on, looked for one by one over more than two of their turns."""
    days = []
    for day in range(2 * many * other_many + 1):
        if (day - start) % many == 0 and (day - other_start) % other_many == 0:
            days.append(day)
    return (days[1] - days[0], days[0]) if days else None


class CommonDays(unittest.TestCase):
    def assert_common(self, many, start, other_many, other_start, turn):
        """Holds for any size: the day fits both, is the least, and the turn is the one told."""
        found = common_days(many, start, other_many, other_start)
        self.assertEqual(found[0], turn)
        self.assertTrue(0 <= found[1] < turn)
        self.assertEqual((found[1] - start) % many, 0)
        self.assertEqual((found[1] - other_start) % other_many, 0)

    def test_all_small_numbers_against_a_search(self):
        for many in range(1, 13):
            for other_many in range(1, 13):
                for start in (-many - 1, -1, 0, 1, many, many + 3):
                    for other_start in (-7, -1, 0, 1, 2, 5, 11):
                        asked = (many, start, other_many, other_start)
                        self.assertEqual(common_days(*asked), searched(*asked), asked)

    def test_numbers_without_a_common_divisor(self):
        self.assertEqual(common_days(3, 1, 5, 2), (15, 7))
        self.assertEqual(common_days(5, 2, 3, 1), (15, 7))
        self.assertEqual(common_days(7, -3, 10, 4), (70, 4))
        self.assertEqual(common_days(9, 0, 10, -1), (90, 9))

    def test_numbers_with_a_common_divisor(self):
        self.assertEqual(common_days(4, 1, 6, 3), (12, 9))
        self.assertEqual(common_days(6, -3, 4, -11), (12, 9))
        self.assertEqual(common_days(60, 10, 48, 34), (240, 130))
        self.assertIsNone(common_days(4, 1, 6, 2))
        self.assertIsNone(common_days(60, 10, 48, 35))

    def test_one_number_goes_into_the_other(self):
        self.assertEqual(common_days(3, 1, 12, 7), (12, 7))
        self.assertEqual(common_days(12, -5, 3, 100), (12, 7))
        self.assertIsNone(common_days(3, 1, 12, 8))
        self.assertIsNone(common_days(12, 8, 3, 1))

    def test_both_the_same(self):
        self.assertEqual(common_days(7, 3, 7, 3), (7, 3))
        self.assertEqual(common_days(7, 3, 7, -4), (7, 3))
        self.assertEqual(common_days(7, 10, 7, -11), (7, 3))
        self.assertIsNone(common_days(7, 3, 7, 4))

    def test_one(self):
        self.assertEqual(common_days(1, 0, 1, 0), (1, 0))
        self.assertEqual(common_days(1, 5, 1, -8), (1, 0))
        self.assertEqual(common_days(1, -10 ** 99, 60, 61), (60, 1))
        self.assertEqual(common_days(60, -61, 1, 10 ** 99), (60, 59))

    def test_the_least_day_that_is_not_below_nought(self):
        self.assertEqual(common_days(4, 0, 6, 0), (12, 0))
        self.assertEqual(common_days(4, 12, 6, -12), (12, 0))
        self.assertEqual(common_days(4, 120, 6, 240), (12, 0))
        self.assertEqual(common_days(4, -1, 6, -1), (12, 11))
        self.assertEqual(common_days(4, -11, 6, -11), (12, 1))
        self.assertEqual(common_days(4, 1000, 6, 1000), (12, 4))

    def test_numbers_of_fifty_figures_without_a_common_divisor(self):
        # Neighbours have no common divisor but one.
        turn = FIFTY * OTHER_FIFTY
        for start in (0, 3, -3, FIFTY - 1, 10 ** 99, -10 ** 99, MOST, -MOST):
            for other_start in (0, 5, -5, 10 ** 80, -MOST):
                self.assert_common(FIFTY, start, OTHER_FIFTY, other_start, turn)
                self.assert_common(OTHER_FIFTY, other_start, FIFTY, start, turn)

    def test_numbers_of_fifty_figures_with_a_common_divisor(self):
        divisor = 10 ** 20 + 39
        many, other_many = divisor * (10 ** 30 + 1), divisor * 10 ** 30
        turn = divisor * (10 ** 30 + 1) * 10 ** 30
        for start in (0, 17, -17, MOST, -MOST):
            for times in (0, 1, -1, 10 ** 70, -10 ** 70 - 3):
                self.assert_common(many, start, other_many, start + divisor * times, turn)
                self.assertIsNone(common_days(many, start, other_many, start + divisor * times + 1))
                self.assertIsNone(common_days(many, start, other_many, start + divisor * times - 1))

    def test_numbers_of_a_hundred_figures(self):
        self.assert_common(MOST, 5, MOST - 1, -5, MOST * (MOST - 1))
        self.assert_common(MOST - 1, MOST, MOST, -MOST, MOST * (MOST - 1))
        self.assertEqual(common_days(MOST, 5, MOST, 5 - MOST), (MOST, 5))
        self.assertEqual(common_days(MOST, -1, 9, -1), (MOST, MOST - 1))
        self.assertEqual(common_days(MOST, MOST, 1, 0), (MOST, 0))
        self.assertIsNone(common_days(MOST, 0, MOST, 1))
        self.assertIsNone(common_days(MOST, 0, 9, 1))

    def test_great_numbers_drawn_with_a_fixed_seed(self):
        drawn = random.Random(9)
        for step in range(200):
            divisor, one, other = drawn.randrange(1, 10 ** 9), drawn.randrange(1, 10 ** 40), drawn.randrange(1, 10 ** 40)
            many, other_many = divisor * one, divisor * other
            start, other_start = drawn.randrange(-MOST, MOST), drawn.randrange(-MOST, MOST)
            greatest, rest = many, other_many
            while rest:
                greatest, rest = rest, greatest % rest
            other_start -= (other_start - start) % greatest
            self.assert_common(many, start, other_many, other_start, many * other_many // greatest)
            if greatest > 1:
                self.assertIsNone(common_days(many, start, other_many, other_start + 1))

    def test_they_are_the_days_that_both_rules_have(self):
        for many, start, other_many, other_start in ((10, 3, 4, 1), (60, -7, 45, 8), (1, 0, 60, 9), (6, 1, 4, 2)):
            rule = ("both", ("every", many, start), ("every", other_many, other_start))
            found = common_days(many, start, other_many, other_start)
            self.assertEqual(next_day(rule, -1), None if found is None else found[1])
            if found is not None:
                self.assertEqual(next_day(rule, found[1]), found[1] + found[0])
                self.assertIs(has_day(rule, found[1]), True)

    def test_the_kind_of_the_answer(self):
        found = common_days(4, 1, 6, 3)
        self.assertIs(type(found), tuple)
        self.assertEqual([type(number) for number in found], [int, int])


class Inverses(unittest.TestCase):
    def test_a_number_and_its_inverse(self):
        for other in range(2, 40):
            for number in range(1, 80):
                if all(number % divisor or other % divisor for divisor in range(2, other + 1)):
                    found = inverse_of(number, other)
                    self.assertTrue(0 <= found < other)
                    self.assertEqual(number * found % other, 1)

    def test_where_one_alone_is_left(self):
        for number in (1, 2, 60, FIFTY):
            self.assertEqual(inverse_of(number, 1), 0)


class Refusals(unittest.TestCase):
    WRONG = (0, -1, -2, -60, -10 ** 50, -MOST)

    def test_a_number_of_days_below_one(self):
        for wrong in self.WRONG:
            for right in (1, 2, 60, FIFTY):
                for start, other_start in ((0, 0), (0, 1), (-3, 8), (MOST, -MOST)):
                    with self.assertRaises(NoRule):
                        common_days(wrong, start, right, other_start)
                    with self.assertRaises(NoRule):
                        common_days(right, start, wrong, other_start)

    def test_both_below_one(self):
        for wrong in self.WRONG:
            for other in self.WRONG:
                with self.assertRaises(NoRule):
                    common_days(wrong, 0, other, 1)

    def test_more_than_sixty_is_not_refused(self):
        self.assertEqual(common_days(61, 0, 61, 0), (61, 0))
        self.assertEqual(common_days(1000, 0, 1, 0), (1000, 0))


if __name__ == "__main__":
    unittest.main()
