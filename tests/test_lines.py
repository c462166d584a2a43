"""Points [10] and [11]: rules written as lines, and lines read as rules."""

import random
import unittest

from fairdays.errors import NoLine, NoRule
from fairdays.lines import read, shown
from fairdays.rules import turn_of
from test_rules import drawn_rule

MOST = 10 ** 100 - 1
LINES = {
    "every 5 from -3": ("every", 5, -3),
    "every 1 from 0": ("every", 1, 0),
    "every 60 from 100": ("every", 60, 100),
    f"every 60 from {MOST}": ("every", 60, MOST),
    f"every 7 from -{MOST}": ("every", 7, -MOST),
    "date 12": ("date", 12),
    "date 37": ("date", 37),
    "date -1": ("date", -1),
    "date -37": ("date", -37),
    "nth -1 weekday 8": ("nth", -1, 8),
    "nth 5 weekday 0": ("nth", 5, 0),
    "nth -5 weekday 3": ("nth", -5, 3),
    "( every 5 from -3 and date 12 )": ("both", ("every", 5, -3), ("date", 12)),
    "( every 5 from -3 or date 12 )": ("either", ("every", 5, -3), ("date", 12)),
    "( every 5 from -3 but date 12 )": ("but", ("every", 5, -3), ("date", 12)),
    "( every 5 from -3 off date 12 )": ("moved", ("every", 5, -3), ("date", 12)),
    "( date 12 off nth -1 weekday 8 )": ("moved", ("date", 12), ("nth", -1, 8)),
    "( ( date 1 and date 2 ) or date 3 )": ("either", ("both", ("date", 1), ("date", 2)), ("date", 3)),
    "( date 1 and ( date 2 or date 3 ) )": ("both", ("date", 1), ("either", ("date", 2), ("date", 3))),
    "( ( date 1 but date 2 ) off ( nth 1 weekday 2 but every 3 from 4 ) )":
        ("moved", ("but", ("date", 1), ("date", 2)), ("but", ("nth", 1, 2), ("every", 3, 4))),
}
WORDS = {"both": "and", "either": "or", "but": "but", "moved": "off"}


def is_plain(value):
    """Whether it is tuples of texts, whole numbers and such tuples alone."""
    if type(value) is tuple:
        return all(is_plain(inner) for inner in value)
    return type(value) in (str, int)


class Shown(unittest.TestCase):
    def test_lines_as_told(self):
        for line, rule in LINES.items():
            self.assertEqual(shown(rule), line)

    def test_the_kind_of_the_answer(self):
        for rule in LINES.values():
            self.assertIs(type(shown(rule)), str)

    def test_deep_rules_on_the_left(self):
        for kind, word in WORDS.items():
            for depth in (99, 100, 101, 140):
                rule = ("date", 1)
                for step in range(depth):
                    rule = (kind, rule, ("nth", -1, step % 9))
                tails = [f" {word} nth -1 weekday {step % 9} )" for step in range(depth)]
                self.assertEqual(shown(rule), "( " * depth + "date 1" + "".join(tails))
                self.assertEqual(read(shown(rule)), rule)

    def test_deep_rules_on_the_right(self):
        for kind, word in WORDS.items():
            for depth in (99, 100, 101, 140):
                rule = ("date", 1)
                for step in range(depth):
                    rule = (kind, ("every", 2, -step), rule)
                heads = [f"( every 2 from {-step} {word} " for step in range(depth)]
                self.assertEqual(shown(rule), "".join(reversed(heads)) + "date 1" + " )" * depth)
                self.assertEqual(read(shown(rule)), rule)

    def test_a_rule_of_many_rules(self):
        rule = ("date", -3)
        for step in range(9):
            rule = (("both", "either", "but", "moved")[step % 4], rule, rule)
        self.assertEqual(read(shown(rule)), rule)


class Read(unittest.TestCase):
    def test_lines_as_told(self):
        for line, rule in LINES.items():
            self.assertEqual(read(line), rule)

    def test_the_kind_of_the_answer(self):
        for line in LINES:
            self.assertIs(type(read(line)), tuple)
            self.assertTrue(is_plain(read(line)), line)

    def test_all_numbers_within_the_bounds(self):
        for many in range(1, 61):
            for start in (-many, -1, 0, 1, 10, 100):
                self.assertEqual(read(f"every {many} from {start}"), ("every", many, start))
        for date in range(1, 38):
            self.assertEqual(read(f"date {date}"), ("date", date))
            self.assertEqual(read(f"date -{date}"), ("date", -date))
        for which in range(1, 6):
            for weekday in range(9):
                self.assertEqual(read(f"nth {which} weekday {weekday}"), ("nth", which, weekday))
                self.assertEqual(read(f"nth -{which} weekday {weekday}"), ("nth", -which, weekday))

    def test_rules_drawn_with_a_fixed_seed(self):
        drawn = random.Random(10)
        for step in range(500):
            rule = drawn_rule(drawn, drawn.randrange(7))
            line = shown(rule)
            self.assertEqual(read(line), rule)
            self.assertTrue(is_plain(read(line)))
            self.assertEqual(shown(read(line)), line)

    def test_a_rule_with_a_greater_turn_than_ten_thousand(self):
        rule, turn = ("date", 1), 72
        for many in (7, 11, 13, 17, 19, 23, 29, 31, 37, 41, 43, 47, 53, 59):
            rule, turn = ("either", rule, ("every", many, 0)), turn * many
        line = shown(rule)
        self.assertEqual(read(line), rule)
        self.assertEqual(turn_of(rule), turn)
        self.assertEqual(read("( every 59 from 0 off ( every 53 from 0 off date 3 ) )"),
                         ("moved", ("every", 59, 0), ("moved", ("every", 53, 0), ("date", 3))))

    def test_a_start_somewhat_beyond_a_hundred_figures(self):
        for start in (10 ** 130, -10 ** 130):
            self.assertEqual(read(f"every 3 from {start}"), ("every", 3, start))
            self.assertEqual(shown(("every", 3, start)), f"every 3 from {start}")


NO_RULES = (
    "",
    " ",
    "  ",
    "date",
    "every",
    "nth",
    "12",
    "-3",
    "0",
    "(",
    ")",
    "( )",
    "( ( ) )",
    "and",
    "or",
    "but",
    "off",
    "from",
    "weekday",
    "moved",
    "both",
    "either",
    "both date 1 date 2",
    "( both date 1 date 2 )",
    # Words left out, said twice, one more behind or ahead.
    "every 5",
    "every 5 from",
    "every from -3",
    "every 5 -3",
    "every every 5 from -3",
    "every 5 5 from -3",
    "every 5 from from -3",
    "every 5 from -3 -3",
    "every 5 from -3 from",
    "every 5 from -3 every",
    "every 5 from -3 date 12",
    "every 5 from -3 and",
    "5 every from -3",
    "date date 12",
    "date 12 12",
    "date 12 date 12",
    "date 12 date",
    "12 date",
    "date from 12",
    "date 12 from 3",
    "nth -1",
    "nth -1 weekday",
    "nth weekday 8",
    "nth -1 8",
    "nth -1 weekday 8 8",
    "nth -1 weekday weekday 8",
    "and date 12",
    "date 12 and",
    "date 12 )",
    "( date 12",
    "( date 12 )",
    "( ( date 12 ) )",
    # Another word in a place.
    "every 5 weekday -3",
    "every 5 by -3",
    "every five from -3",
    "every 5 from date",
    "every ( from 3",
    "nth -1 from 8",
    "day 12",
    "nth -1 weekday from",
    "date )",
    "each 5 from -3",
    # Pairs without brackets, with too few, too many or others.
    "date 1 and date 2",
    "( date 1 and date 2",
    "date 1 and date 2 )",
    "( ( date 1 and date 2 )",
    "( date 1 and date 2 ) )",
    "( ( date 1 and date 2 ) )",
    ") date 1 and date 2 (",
    "( date 1 and date 2 (",
    ") date 1 and date 2 )",
    "( date 1 and date 2 ) and date 3",
    "( date 1 and date 2 and date 3 )",
    "( date 1 and date 2 ) ( date 1 and date 2 )",
    "( date 1 and ( date 2 or date 3 )",
    "( date 1 and date 2 or date 3 ) )",
    "( date 1 ( and ) date 2 )",
    "( ( date 1 and ) date 2 )",
    "( date 1 ) and ( date 2 )",
    "(date 1 and date 2)",
    "[ date 1 and date 2 ]",
    "{ date 1 and date 2 }",
    # Pairs with a word or a rule missing, twice, or another.
    "( date 1 date 2 )",
    "( date 1 and and date 2 )",
    "( date 1 and )",
    "( and date 2 )",
    "( and )",
    "( date 1 and or date 2 )",
    "( date 1 both date 2 )",
    "( date 1 either date 2 )",
    "( date 1 moved date 2 )",
    "( date 1 xor date 2 )",
    "( date 1 AND date 2 )",
    "( date 1 from date 2 )",
    "( date 1 ( date 2 )",
    "( date 1 ) date 2 )",
    "( date 1 and 2 )",
    "( 1 and 2 )",
    "( and and and )",
    "( or and but )",
    "( date 1 and date 2 and )",
    "and date 1 and date 2 )",
    "( ( and ) )",
    "( ( date 1 and date 2 ) and )",
    "( date 1 date 3 date 2 )",
    "( ( date 1 and date 2 ) date 3 date 4 )",
    "( date 1 and date )",
    "( date and date 1 )",
    # Great letters.
    "Date 12",
    "DATE 12",
    "Every 5 from -3",
    "every 5 From -3",
    "every 5 FROM -3",
    "nth -1 Weekday 8",
    "Nth -1 weekday 8",
    "( date 1 And date 2 )",
    "( date 1 OR date 2 )",
    "( date 1 But date 2 )",
    "( date 1 Off date 2 )",
    "None",
    "('date', 12)",
    '("date", 12)',
    "# date 12",
    "date 12 # remark",
)
NO_NUMBERS = (
    "007", "00", "01", "-0", "-00", "-01", "-007", "--1", "---1", "+3", "+0", "-+3", "+-3", "1a", "a1", "a", "-", "--",
    "-a", "1-", "1-1", "1.0", "1.", ".1", "1,0", "1_0", "1e1", "0x1", "0b1", "0o7", "1/1", "(1)", "'1'", "1\t", "\t1",
    "1\n", "\n1", "1\r", "\u00b2", "\u0661", "\uff11", "\u2212" + "1", "\u00bd", "1\u00a0", "\u2003", "one", "True",
    "None", "_1", "1_", "\x00", "1\x00", "nan", "inf", "*", "1*1", "~1", "!1", "1%",
)


class NoLines(unittest.TestCase):
    def assert_no_line(self, line):
        with self.assertRaises(NoLine, msg=repr(line)):
            read(line)

    def test_lines_that_are_no_rules(self):
        for line in NO_RULES:
            self.assert_no_line(line)

    def test_within_rules(self):
        for line in NO_RULES:
            self.assert_no_line(f"( {line} and date 1 )")
            self.assert_no_line(f"( date 1 off {line} )")

    def test_numbers_that_are_written_otherwise(self):
        for number in NO_NUMBERS + ("", " ", "5 ", " 5"):
            self.assert_no_line(f"date {number}")
            self.assert_no_line(f"every {number} from 0")
            self.assert_no_line(f"every 5 from {number}")
            self.assert_no_line(f"nth {number} weekday 1")
            self.assert_no_line(f"nth 1 weekday {number}")
            self.assert_no_line(f"( date 3 or date {number} )")
            self.assert_no_line(f"( every 5 from {number} but date 3 )")

    def test_nought_is_written_with_one_figure_and_no_sign(self):
        self.assertEqual(read("every 5 from 0"), ("every", 5, 0))
        self.assertEqual(read("nth 1 weekday 0"), ("nth", 1, 0))
        self.assertEqual(read("every 10 from 100"), ("every", 10, 100))
        self.assertEqual(read("every 10 from -100"), ("every", 10, -100))

    def test_blanks(self):
        for line in LINES:
            self.assert_no_line(" " + line)
            self.assert_no_line(line + " ")
            self.assert_no_line("  " + line)
            for place, sign in enumerate(line):
                if sign == " ":
                    self.assert_no_line(line[:place] + "  " + line[place + 1:])
                    for other in ("\t", "\n", "\r", "\u00a0", "\x0b", "_", "-", ","):
                        self.assert_no_line(line[:place] + other + line[place + 1:])
            for other in ("\t", "\n", "\r\n", ".", ";", "\x00", "\ufeff"):
                self.assert_no_line(line + other)
                self.assert_no_line(other + line)

    def test_blanks_left_out(self):
        for line in LINES:
            for place, sign in enumerate(line):
                if sign == " ":
                    self.assert_no_line(line[:place] + line[place + 1:])

    def test_a_word_left_out_or_said_twice(self):
        for line in LINES:
            words = line.split(" ")
            for place, word in enumerate(words):
                self.assert_no_line(" ".join(words[:place] + words[place + 1:]))
                self.assert_no_line(" ".join(words[:place] + [word] + words[place:]))

    def test_one_more_word_anywhere(self):
        for line in LINES:
            words = line.split(" ")
            for place in range(len(words) + 1):
                for more in ("(", ")", "and", "but", "from", "weekday", "3", "-1", "every", "date", "nth", "x"):
                    self.assert_no_line(" ".join(words[:place] + [more] + words[place:]))

    def test_another_word_in_a_place(self):
        for line in LINES:
            words = line.split(" ")
            for place, word in enumerate(words):
                for other in ("(", ")", "x", "from", "weekday", "every", "date", "nth", word.upper() + "X", word + "x"):
                    if other != word:
                        self.assert_no_line(" ".join(words[:place] + [other] + words[place + 1:]))

    def test_words_with_great_letters(self):
        for line in LINES:
            words = line.split(" ")
            for place, word in enumerate(words):
                if word.isalpha():
                    for other in (word.upper(), word.capitalize()):
                        self.assert_no_line(" ".join(words[:place] + [other] + words[place + 1:]))

    def test_the_words_between_two_rules_change_the_rule_alone(self):
        for kind, word in WORDS.items():
            self.assertEqual(read(f"( date 1 {word} date 2 )"), (kind, ("date", 1), ("date", 2)))

    def test_many_brackets(self):
        for many in (1, 100, 130, 5000):
            self.assert_no_line(" ".join(["("] * many))
            self.assert_no_line(" ".join([")"] * many))
            self.assert_no_line("( " * many + "date 1")
            self.assert_no_line("date 1" + " )" * many)
            self.assert_no_line("( " * many + "date 1" + " )" * many)
            self.assert_no_line("( " * many + "date 1" + " and date 2 )" * (many - 1))
            self.assert_no_line("( " * many + "date 1" + " and date 2 )" * (many + 1))

    def test_no_line_goes_ahead_of_no_rule(self):
        for line in ("date 0 ", " date 0", "date 0 0", "every 0 from", "every 0 by 3", "every 61 from 007", "nth 6 weekday",
                     "nth 9 weekday -0", "( date 0 and date 1", "date 38 )", "( date 38 and date 1 ) )",
                     "( date 38 and Date 1 )", "( date 38 and date 01 )", "( date 01 and date 38 )",
                     "( every 0 from 0 or  date 1 )", "( date 0 )", "date 0 and date 1", "date 0 date 0",
                     "( date 0 date 0 )", "( date 0 xor date 0 )", "every -0 from 0", "date 00"):
            self.assert_no_line(line)


class NoRules(unittest.TestCase):
    WRONG = (
        "every 0 from 0", "every 61 from 0", "every -1 from 3", "every -60 from 3", "every 1000 from -3",
        f"every {MOST} from 0", f"every -{MOST} from {MOST}", "date 0", "date 38", "date -38", f"date {MOST}",
        f"date -{MOST}", "nth 0 weekday 0", "nth 6 weekday 8", "nth -6 weekday 8", f"nth {MOST} weekday 3",
        "nth 1 weekday 9", "nth 1 weekday -1", "nth -5 weekday 9", f"nth 5 weekday {MOST}", "nth 0 weekday 9",
    )

    def assert_no_rule(self, line):
        with self.assertRaises(NoRule, msg=line):
            read(line)

    def test_numbers_alone_are_wrong(self):
        for line in self.WRONG:
            self.assert_no_rule(line)

    def test_within_rules(self):
        for line in self.WRONG:
            for word in WORDS.values():
                self.assert_no_rule(f"( {line} {word} date 1 )")
                self.assert_no_rule(f"( every 1 from 0 {word} {line} )")
                self.assert_no_rule(f"( ( date 1 {word} {line} ) but ( {line} {word} {line} ) )")

    def test_a_hundred_deep(self):
        for line in self.WRONG:
            for depth in (100, 130):
                self.assert_no_rule("( " * depth + line + " or date 1 )" * depth)
                self.assert_no_rule("( date 1 off " * depth + line + " )" * depth)

    def test_the_same_rules_are_not_shown(self):
        for line in self.WRONG:
            words = line.split(" ")
            rule = (words[0],) + tuple(int(word) for word in words[1::2])
            with self.assertRaises(NoRule, msg=line):
                shown(rule)
            with self.assertRaises(NoRule, msg=line):
                shown(("either", ("date", 1), ("moved", rule, ("date", 2))))


if __name__ == "__main__":
    unittest.main()
