import unittest

from fairdays.errors import FairError, NoCount, NoLine, NoRule


class ErrorClasses(unittest.TestCase):
    def test_any_refusal_is_a_value_error(self):
        self.assertEqual(FairError.__bases__, (ValueError,))

    def test_each_refusal_stands_under_fair_error(self):
        for refusal in (NoRule, NoCount, NoLine):
            with self.subTest(refusal=refusal.__name__):
                self.assertEqual(refusal.__bases__, (FairError,))

    def test_the_refusals_are_told_apart(self):
        for refusal in (NoRule, NoCount, NoLine):
            for other in (NoRule, NoCount, NoLine):
                self.assertEqual(issubclass(refusal, other), refusal is other)

    def test_names(self):
        names = [refusal.__name__ for refusal in (FairError, NoRule, NoCount, NoLine)]
        self.assertEqual(names, ["FairError", "NoRule", "NoCount", "NoLine"])


if __name__ == "__main__":
    unittest.main()
