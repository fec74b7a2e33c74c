"""Tests of what the document promises over the whole program."""

import copy
import importlib
import inspect
import unittest

from oneparts.cutter import Cutter
from oneparts.divisors import divisor_sum, divisors, is_full
from oneparts.errors import (
    CannotSplit, InvalidFraction, InvalidNumber, InvalidSum, NothingToUndo, NotThere, ParseError, TooGreat, Used,
)
from oneparts.fewest import fewest, first_sum, sums
from oneparts.formatting import format_sum, parse_sum
from oneparts.fractions import is_fraction, is_sum, is_sum_of, total
from oneparts.greedy import greatest, greedy
from oneparts.pairs import has_pair, pairs
from oneparts.small import least_last, small_sums
from oneparts.splitting import split, splittable
from tests import checks, samples

# The interface: the functions of each file, with the names of their arguments.
FUNCTIONS = {
    "fractions": {
        "is_fraction": ["value"], "is_sum": ["value"], "total": ["value"], "is_sum_of": ["fraction", "value"],
    },
    "greedy": {"greatest": ["fraction"], "greedy": ["fraction"]},
    "pairs": {"has_pair": ["fraction"], "pairs": ["fraction"]},
    "fewest": {"fewest": ["fraction"], "first_sum": ["fraction"], "sums": ["fraction", "count"]},
    "small": {"small_sums": ["fraction", "most"], "least_last": ["fraction"]},
    "splitting": {"split": ["value", "part"], "splittable": ["value"]},
    "divisors": {"divisors": ["number"], "is_full": ["number"], "divisor_sum": ["number", "wanted"]},
    "formatting": {"format_sum": ["value"], "parse_sum": ["text"]},
}
METHODS = {"cut": ["part"], "left": [], "parts": [], "next_part": [], "undo": [], "duplicate": []}

# The examples of the interface, as function, arguments and result.
EXAMPLES = [
    (is_fraction, ((2, 3),), True), (total, ((2, 6),), (2, 3)), (is_sum_of, ((2, 3), (2, 6)), True),
    (greatest, ((2, 3),), 2), (greedy, ((4, 13),), (4, 18, 468)), (has_pair, ((4, 13),), False),
    (pairs, ((2, 15),), [(8, 120), (9, 45), (10, 30), (12, 20)]), (fewest, ((4, 13),), 3),
    (first_sum, ((4, 13),), (4, 18, 468)), (sums, ((5, 6), 2), [(2, 3)]),
    (small_sums, ((2, 3), 12), [(2, 6), (3, 4, 12)]), (least_last, ((2, 3),), 6), (split, ((2, 6), 6), (2, 7, 42)),
    (splittable, ((2, 3),), [3]), (divisors, (12,), [1, 2, 3, 4, 6, 12]), (is_full, (12,), True),
    (divisor_sum, (12, 11), (1, 4, 6)), (format_sum, ((2, 6),), "1/2+1/6"), (parse_sum, ("1/2+1/6",), (2, 6)),
]


def cut_all(fraction, parts):
    """Return what a cutter tells after the parts were cut off, and the errors on the way."""
    cutter = Cutter(fraction)
    found = [checks.outcome(cutter.cut, (part,)) for part in parts]
    return [found, cutter.left(), cutter.parts(), cutter.next_part(), len(cutter), str(cutter)]


def right_calls():
    """Return calls, as function and arguments, that raise no error."""
    calls = [(function, row) for function, row, _ in EXAMPLES]
    for fraction in samples.all_fractions()[::9]:
        calls += [(function, (fraction,)) for function in (greatest, greedy, has_pair, pairs, fewest, first_sum)]
        calls += [(sums, (fraction, count)) for count in (1, 2, 3)]
        calls += [(small_sums, (fraction, most)) for most in (2, 12, 16)]
        calls += [(least_last, (fraction,)), (is_fraction, (fraction,)), (is_sum_of, (fraction, (2, 6)))]
        calls += [(cut_all, (fraction, (2, 30, 2, 31, 0, 5)))]
    for value in samples.sample_sums():
        calls += [(function, (value,)) for function in (is_sum, total, format_sum)]
        calls += [(parse_sum, (format_sum(value),))]
    for value in ((), (2,), (2, 6), (3, 4, 12), (2, 3, 99)):
        calls += [(splittable, (value,))] + [(split, (value, part)) for part in value[-1:]]
    for number in range(1, 201, 13):
        calls += [(divisors, (number,)), (is_full, (number,))]
        calls += [(divisor_sum, (number, wanted)) for wanted in (0, 1, number, 999)]
    return calls


def wrong_calls():
    """Return calls, as function, arguments and error, of which one argument or more are wrong."""
    calls = []
    for wrong in samples.changeable_values() + [None, True, False, "2/3", (4, 6), (True, 2), (1, 31), 2j]:
        for function in (greatest, greedy, has_pair, pairs, fewest, first_sum, least_last, Cutter):
            calls.append((function, (wrong,), InvalidFraction))
        for other in (2, 0, 17, True, None, [2]):
            calls += [(sums, (wrong, other), InvalidFraction), (small_sums, (wrong, other), InvalidFraction)]
        calls += [(is_sum_of, (wrong, other), InvalidFraction) for other in ((2, 6), None, [2])]
    for wrong in samples.changeable_values() + [None, True, False, "2", (3, 2), (2, True), (1, 2), (2, 10000), 2j]:
        calls += [(function, (wrong,), InvalidSum) for function in (total, format_sum, splittable)]
        calls += [(split, (wrong, part), InvalidSum) for part in (2, 3, 5, True, None, [2])]
    for wrong in samples.changeable_values() + [None, True, False, "2", "12", (2,), -1, 1000, 2j]:
        calls += [(sums, ((2, 3), wrong), InvalidNumber), (small_sums, ((2, 3), wrong), InvalidNumber)]
        calls += [(divisors, (wrong,), InvalidNumber), (is_full, (wrong,), InvalidNumber)]
        calls += [(divisor_sum, (wrong, other), InvalidNumber) for other in (11, -1, 1000, True, None, [11])]
        calls += [(divisor_sum, (12, wrong), InvalidNumber), (split, ((2, 6), wrong), NotThere)]
        if wrong != 1000:
            calls.append((Cutter((2, 3)).cut, (wrong,), InvalidNumber))
    for wrong in samples.changeable_values() + [None, True, False, "", "1/2+", "1/6+1/2", b"1/2", (2, 6), 2, 2j]:
        calls.append((parse_sum, (wrong,), ParseError))
    return calls + [(split, ((2, 3), 2), CannotSplit), (Cutter((2, 3)).undo, (), NothingToUndo)]


def change(value):
    """Change the value, and what it holds, where that can be done."""
    if isinstance(value, list):
        for item in value:
            change(item)
        value.reverse()
        value.append("changed")


class InterfaceTest(unittest.TestCase):
    def test_each_function_stands_in_its_file_with_its_arguments(self):
        for file, functions in FUNCTIONS.items():
            module = importlib.import_module(f"oneparts.{file}")
            for name, arguments in functions.items():
                with self.subTest(file, name=name):
                    function = getattr(module, name)
                    self.assertTrue(inspect.isfunction(function))
                    self.assertEqual(function.__module__, module.__name__)
                    self.assertEqual(function.__name__, name)
                    self.assertEqual(list(inspect.signature(function).parameters), arguments)

    def test_the_cutter_has_its_methods_with_their_arguments(self):
        self.assertEqual(list(inspect.signature(Cutter).parameters), ["fraction"])
        self.assertEqual(Cutter.__module__, "oneparts.cutter")
        for name, arguments in METHODS.items():
            with self.subTest(name):
                self.assertEqual(list(inspect.signature(vars(Cutter)[name]).parameters)[1:], arguments)

    def test_examples(self):
        for function, row, wanted in EXAMPLES:
            with self.subTest(function.__name__):
                found = function(*row)
                self.assertEqual(found, wanted)
                self.assertIs(type(found), type(wanted))


class GeneralTest(unittest.TestCase):
    def test_equal_calls_return_equal_results_with_other_calls_in_between(self):
        first = [copy.deepcopy(function(*row)) for function, row in right_calls()]
        for function, row, _ in wrong_calls():
            checks.outcome(function, row)
        self.assertEqual([function(*row) for function, row in right_calls()], first)
        backwards = [function(*row) for function, row in right_calls()[::-1]]
        self.assertEqual(backwards[::-1], first)

    def test_equal_calls_return_equal_results_after_a_returned_list_was_changed(self):
        first = [copy.deepcopy(function(*row)) for function, row in right_calls()]
        for function, row in right_calls():
            change(function(*row))
        self.assertEqual([function(*row) for function, row in right_calls()], first)

    def test_every_returned_list_is_a_new_list(self):
        for function, row in right_calls():
            one, other = function(*row), function(*row)
            if isinstance(one, list):
                with self.subTest(function.__name__, row=row):
                    self.assertIsNot(one, other)

    def test_arguments_are_not_modified(self):
        calls = right_calls() + [(function, row) for function, row, _ in wrong_calls()]
        for function, row in calls:
            with self.subTest(function.__name__, row=row):
                before = copy.deepcopy(row)
                checks.outcome(function, row)
                self.assertEqual(row, before)

    def test_wrong_arguments_and_the_error_that_is_listed_first(self):
        for function, row, error in wrong_calls():
            with self.subTest(function.__name__, row=row):
                with self.assertRaises(error):
                    function(*row)

    def test_true_and_false_are_not_accepted_as_integers(self):
        for wrong in (True, False):
            for function, row, error in (
                (greatest, ((wrong, 2),), InvalidFraction), (Cutter, ((wrong, 3),), InvalidFraction),
                (total, ((wrong, 2),), InvalidSum), (format_sum, ((wrong,),), InvalidSum),
                (splittable, ((wrong, 2),), InvalidSum), (split, ((2, 6), wrong), NotThere),
                (sums, ((1, 2), wrong), InvalidNumber), (small_sums, ((1, 2), wrong), InvalidNumber),
                (divisors, (wrong,), InvalidNumber), (is_full, (wrong,), InvalidNumber),
                (divisor_sum, (wrong, 1), InvalidNumber), (divisor_sum, (1, wrong), InvalidNumber),
                (Cutter((1, 2)).cut, (wrong,), InvalidNumber),
            ):
                with self.subTest(function.__name__, row=row):
                    with self.assertRaises(error):
                        function(*row)

    def test_a_call_of_a_cutter_that_raises_an_error_changes_nothing(self):
        for parts in ((), (2,), (2, 6), (30, 3)):
            cutter, same = Cutter((2, 3)), Cutter((2, 3))
            for part in parts:
                cutter.cut(part)
                same.cut(part)
            cutter, same = cutter.duplicate(), same.duplicate()
            calls = [(part, Used) for part in parts] + [(part, InvalidNumber) for part in (1, 10000, True, None, [2])]
            if cutter.left() == (0, 1):
                calls += [(9999, TooGreat)]
            for part, error in calls:
                with self.subTest(parts, part=part):
                    self.assertRaises(error, cutter.cut, part)
                    self.assertRaises(NothingToUndo, cutter.undo)
                    self.assertEqual(cutter, same)
                    self.assertEqual((cutter.parts(), cutter.left()), (same.parts(), same.left()))

    def test_calls_of_functions_do_not_change_a_cutter(self):
        cutter = Cutter((2, 3))
        cutter.cut(3)
        before = cut_all((2, 3), (3,))[1:]
        for function, row in right_calls():
            function(*row)
        for function, row, _ in wrong_calls():
            checks.outcome(function, row)
        found = [cutter.left(), cutter.parts(), cutter.next_part(), len(cutter), str(cutter)]
        self.assertEqual(found, before)

    def test_no_call_takes_long(self):
        for function, row in right_calls():
            checks.check_all_quick(self, function, [row])


if __name__ == "__main__":
    unittest.main()
