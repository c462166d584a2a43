"""Point [1] and the interface over the whole program."""

import copy
import inspect
import pathlib
import subprocess
import sys
import unittest

from fairdays.common import common_days
from fairdays.diary import leaf
from fairdays.errors import NoCount, NoLine, NoRule
from fairdays.lines import read, shown
from fairdays.months import date_of
from fairdays.rules import has_day, turn_of
from fairdays.search import day_ahead, how_many, next_day, nth_day

ROOT = pathlib.Path(__file__).resolve().parent.parent
ARGUMENTS = {
    date_of: ["day"],
    has_day: ["rule", "day"],
    turn_of: ["rule"],
    next_day: ["rule", "day"],
    day_ahead: ["rule", "day"],
    how_many: ["rule", "first", "last"],
    nth_day: ["rule", "day", "many"],
    common_days: ["many", "start", "other_many", "other_start"],
    shown: ["rule"],
    read: ["line"],
    leaf: ["diary", "first", "last"],
}
RULE = ("moved", ("either", ("every", 7, 3), ("date", -2)), ("but", ("nth", 1, 2), ("both", ("date", 3), ("every", 2, 0))))
DIARY = [("fair", RULE), ("", ("date", 3)), ("fair", ("nth", -1, 8))]
SNIPPET = """
import builtins, sys
from fairdays.common import common_days
from fairdays.diary import leaf
from fairdays.lines import read, shown
from fairdays.months import date_of
from fairdays.rules import has_day, turn_of
from fairdays.search import day_ahead, how_many, next_day, nth_day

def refused(event, told):
    if event.split(".")[0] in ("open", "socket", "subprocess", "os", "time", "import", "exec", "compile"):
        raise SystemExit("event " + event)

sys.addaudithook(refused)
rule = ("moved", ("every", 7, 3), ("date", -2))
answers = [date_of(5), has_day(rule, 3), turn_of(rule), next_day(rule, 0), day_ahead(rule, 0), how_many(rule, 0, 99),
           nth_day(rule, 0, 9), common_days(4, 1, 6, 3), read(shown(rule)) == rule, leaf([("a", rule)], 0, 9)]
sys.stdout.write(repr(answers))
"""


class Interface(unittest.TestCase):
    def test_names_of_the_arguments(self):
        for function, names in ARGUMENTS.items():
            parameters = inspect.signature(function).parameters
            self.assertEqual(list(parameters), names, function.__name__)
            self.assertTrue(all(told.default is told.empty for told in parameters.values()), function.__name__)

    def test_arguments_by_name(self):
        self.assertEqual(date_of(day=35), (1, 1))
        self.assertIs(has_day(rule=("date", 1), day=0), True)
        self.assertEqual(turn_of(rule=("date", 1)), 72)
        self.assertEqual(next_day(rule=("date", 1), day=0), 35)
        self.assertEqual(day_ahead(rule=("date", 1), day=0), -37)
        self.assertEqual(how_many(rule=("date", 1), first=0, last=35), 2)
        self.assertEqual(nth_day(rule=("date", 1), day=0, many=2), 72)
        self.assertEqual(common_days(many=4, start=1, other_many=6, other_start=3), (12, 9))
        self.assertEqual(shown(rule=("date", 1)), "date 1")
        self.assertEqual(read(line="date 1"), ("date", 1))
        self.assertEqual(leaf(diary=[("a", ("date", 1))], first=0, last=1), [(0, ["a"])])


class NothingIsChanged(unittest.TestCase):
    def answers(self):
        return [has_day(RULE, 3), turn_of(RULE), next_day(RULE, 0), day_ahead(RULE, 0), how_many(RULE, -99, 99),
                nth_day(RULE, 0, 9), shown(RULE), leaf(DIARY, 0, 99), read(shown(RULE))]

    def test_what_is_handed_in(self):
        rule, diary = copy.deepcopy(RULE), copy.deepcopy(DIARY)
        self.answers()
        for refused, asked in ((NoCount, lambda: nth_day(RULE, 0, 0)), (NoLine, lambda: read("date")),
                               (NoRule, lambda: leaf(DIARY + [("", ("date", 0))], 0, 9))):
            with self.assertRaises(refused):
                asked()
        self.assertEqual(repr(RULE), repr(rule))
        self.assertEqual(repr(DIARY), repr(diary))

    def test_one_call_leaves_nothing_for_the_next(self):
        self.assertEqual(self.answers(), self.answers())
        first = leaf(DIARY, 0, 9)
        first.clear()
        self.assertNotEqual(leaf(DIARY, 0, 9), [])


class NothingFromWithout(unittest.TestCase):
    def test_no_files_no_clock_and_no_imports_while_asked(self):
        done = subprocess.run([sys.executable, "-B", "-c", SNIPPET], cwd=ROOT, capture_output=True, text=True)
        self.assertEqual((done.returncode, done.stderr), (0, ""))
        self.assertTrue(done.stdout.startswith("[(0, 6), True, 504, 3, -4, "), done.stdout)

    def test_nothing_of_python_is_imported(self):
        script = ("import sys; before = set(sys.modules); import fairdays.common, fairdays.diary, fairdays.lines,"
                  " fairdays.search; print(sorted(set(sys.modules) - before))")
        done = subprocess.run([sys.executable, "-B", "-c", script], cwd=ROOT, capture_output=True, text=True)
        self.assertEqual([name for name in eval(done.stdout) if name.split(".")[0] != "fairdays"], [])


if __name__ == "__main__":
    unittest.main()
