"""Checks that the tests of several files share."""

import copy
import time
from fractions import Fraction

from oneparts.errors import PartError
from tests import samples


def check_defined(case, functions, name):
    """Check that the functions are defined in the file of the module of that name."""
    for function in functions:
        with case.subTest(function):
            case.assertEqual(function.__module__, name)


def check_refused(case, function, values, error):
    """Check that the function raises the error for each of the values."""
    for at, value in enumerate(values):
        # Not all of the values can be shown.
        with case.subTest(at):
            with case.assertRaises(error):
                function(value)


def check_unchanged(case, function, error):
    """Check that the function leaves its argument as it is, be it a fraction or a wrong value."""
    for value in samples.changeable_values():
        with case.subTest(value):
            before = copy.deepcopy(value)
            with case.assertRaises(error):
                function(value)
            case.assertEqual(value, before)
    for fraction in samples.all_fractions():
        with case.subTest(fraction):
            before = tuple(list(fraction))
            function(fraction)
            case.assertEqual(fraction, before)


def check_repeated(case, function, fail):
    """Check that the function returns the same for every fraction once more, after calls that fail."""
    first = [function(fraction) for fraction in samples.all_fractions()]
    fail()
    second = [function(fraction) for fraction in samples.all_fractions()]
    case.assertEqual(first, second)


def check_new_list(case, function):
    """Check that a returned list that the caller changes does not change what later calls return."""
    for fraction in samples.all_fractions():
        with case.subTest(fraction):
            found = function(fraction)
            before = list(found)
            found.append((2, 3))
            found.reverse()
            case.assertEqual(function(fraction), before)
            found.clear()
            case.assertEqual(function(fraction), before)


def check_sum(case, fraction, value):
    """Check that value is a sum of the fraction."""
    case.assertIs(type(value), tuple)
    case.assertEqual([type(part) for part in value], [int] * len(value))
    case.assertEqual(list(value), sorted(set(value)))
    case.assertGreaterEqual(value[0], 2)
    case.assertEqual(sum(Fraction(1, part) for part in value), Fraction(*fraction))


def check_sums(case, fraction, found):
    """Check that found is a strictly ascending list of sums of the fraction."""
    case.assertIs(type(found), list)
    case.assertEqual(found, sorted(set(found)))
    for value in found:
        check_sum(case, fraction, value)


def check_quick(case, function):
    """Check that no call with a fraction takes more than a second."""
    for fraction in samples.all_fractions():
        with case.subTest(fraction):
            before = time.process_time()
            function(fraction)
            case.assertLess(time.process_time() - before, 1)


def outcome(function, row):
    """Return what the call with these arguments returns, or the class of the package's error that it raises."""
    try:
        return function(*row)
    except PartError as error:
        return type(error)


def check_all_unchanged(case, function, rows):
    """Check that the function leaves its arguments as they are, for each of the rows of arguments."""
    for row in rows:
        with case.subTest(row):
            before = copy.deepcopy(row)
            outcome(function, row)
            case.assertEqual(row, before)


def check_all_repeated(case, function, rows, others):
    """Check that the function returns the same for each row once more, after all rows and the other ones."""
    first = [copy.deepcopy(outcome(function, row)) for row in rows]
    for row in others:
        outcome(function, row)
    case.assertEqual([outcome(function, row) for row in rows], first)


def check_all_new_lists(case, function, rows):
    """Check that a returned list that the caller changes does not change what a later call returns."""
    for row in rows:
        with case.subTest(row):
            found = function(*row)
            case.assertIs(type(found), list)
            before = list(found)
            found.append(1000)
            found.reverse()
            case.assertEqual(function(*row), before)
            found.clear()
            case.assertEqual(function(*row), before)


def check_all_quick(case, function, rows):
    """Check that no call with a row of arguments takes more than a second."""
    for row in rows:
        with case.subTest(row):
            before = time.process_time()
            outcome(function, row)
            case.assertLess(time.process_time() - before, 1)
