"""Tests of oneparts.small."""

import copy
import unittest
from itertools import combinations
from math import lcm

from oneparts.errors import InvalidFraction, InvalidNumber
from oneparts.fewest import sums
from oneparts.fractions import is_sum_of
from oneparts.small import least_last, small_sums
from tests import checks, samples

SHARES = lcm(*range(2, 17))


def sets_by_total():
    """Return, for each total in shares, the ascending list of the sets of parts from 2 to 16 that add up to it."""
    found = {}
    for count in range(16):
        for parts in combinations(range(2, 17), count):
            found.setdefault(sum(SHARES // part for part in parts), []).append(parts)
    return {shares: sorted(rows) for shares, rows in found.items()}


SETS = sets_by_total()


def tried_sums(fraction, most):
    """Return all sums without parts above most, by going through all sets of parts."""
    upper, lower = fraction
    # Sets of parts add up to whole numbers of shares only.
    rows = SETS.get(SHARES * upper // lower, []) if SHARES * upper % lower == 0 else []
    return [parts for parts in rows if parts[-1] <= most]


class InterfaceTest(unittest.TestCase):
    def test_the_functions_are_defined_in_this_file(self):
        checks.check_defined(self, (small_sums, least_last), "oneparts.small")

    def test_the_arguments_have_the_names_of_the_interface(self):
        self.assertEqual(small_sums(fraction=(2, 3), most=12), [(2, 6), (3, 4, 12)])
        self.assertEqual(least_last(fraction=(2, 3)), 6)

    def test_examples(self):
        self.assertEqual(small_sums((2, 3), 12), [(2, 6), (3, 4, 12)])
        self.assertEqual(least_last((2, 3)), 6)


class SmallSumsTest(unittest.TestCase):
    def test_every_fraction_and_every_greatest_part_against_all_sets(self):
        self.assertEqual(sum(len(rows) for rows in SETS.values()), 2 ** 15)
        for fraction in samples.all_fractions():
            for most in range(2, 17):
                with self.subTest(fraction, most=most):
                    self.assertEqual(small_sums(fraction, most), tried_sums(fraction, most))

    def test_an_ascending_list_of_sums_without_parts_above_most(self):
        for fraction in samples.all_fractions():
            for most in (2, 6, 12, 15, 16):
                with self.subTest(fraction, most=most):
                    found = small_sums(fraction, most)
                    checks.check_sums(self, fraction, found)
                    for value in found:
                        self.assertLessEqual(value[-1], most)
                        self.assertIs(is_sum_of(fraction, value), True)

    def test_no_sum_of_at_most_three_small_parts_is_missing(self):
        for fraction in samples.all_fractions():
            found = small_sums(fraction, 16)
            for count in (1, 2, 3):
                with self.subTest(fraction, count=count):
                    wanted = [value for value in sums(fraction, count) if value[-1] <= 16]
                    self.assertEqual([value for value in found if len(value) == count], wanted)

    def test_single_fractions(self):
        for fraction, most, wanted in (
            ((1, 2), 2, [(2,)]), ((1, 2), 5, [(2,)]), ((1, 2), 6, [(2,), (3, 6)]), ((1, 3), 2, []),
            ((2, 3), 5, []), ((2, 3), 6, [(2, 6)]), ((2, 3), 11, [(2, 6)]), ((5, 6), 4, [(2, 3)]),
            ((1, 16), 15, []), ((1, 16), 16, [(16,)]), ((1, 17), 16, []), ((29, 30), 11, [(2, 5, 6, 10)]),
            ((29, 30), 16, [(2, 5, 6, 10), (3, 4, 5, 10, 12)]),
        ):
            with self.subTest(fraction, most=most):
                self.assertEqual(small_sums(fraction, most), wanted)

    def test_wrong_fractions(self):
        for most in (2, 12, 16):
            checks.check_refused(
                self, lambda value: small_sums(value, most), samples.wrong_fractions(), InvalidFraction)

    def test_wrong_greatest_parts(self):
        for fraction in ((2, 3), (1, 2), (28, 29)):
            checks.check_refused(
                self, lambda value: small_sums(fraction, value), samples.wrong_numbers(2, 16), InvalidNumber)

    def test_the_greatest_parts_beside_the_limits(self):
        for most in (1, 0, -1, -2, -16, 17, 18, 100, True, False, None, "", "12", (), (12,), [], [12]):
            with self.subTest(most):
                with self.assertRaises(InvalidNumber):
                    small_sums((2, 3), most)

    def test_a_wrong_fraction_is_told_before_a_wrong_greatest_part(self):
        for most in (1, 17, 0, -1, True, None, "12", (12,), [12], samples.Unshowable()):
            checks.check_refused(
                self, lambda value: small_sums(value, most), samples.wrong_fractions(), InvalidFraction)


class LeastLastTest(unittest.TestCase):
    def test_the_least_greatest_part_with_which_there_are_small_sums(self):
        for fraction in samples.all_fractions():
            with self.subTest(fraction):
                wanted = [most for most in range(2, 17) if small_sums(fraction, most) != []]
                self.assertEqual(least_last(fraction), wanted[0] if wanted else None)

    def test_every_fraction_against_all_sets(self):
        for fraction in samples.all_fractions():
            with self.subTest(fraction):
                found = least_last(fraction)
                wanted = min([parts[-1] for parts in tried_sums(fraction, 16)], default=None)
                self.assertEqual(found, wanted)
                self.assertIs(type(found), type(wanted))

    def test_single_fractions(self):
        for fraction, wanted in (
            ((1, 2), 2), ((1, 3), 3), ((5, 6), 3), ((3, 4), 4), ((2, 3), 6), ((1, 15), 15), ((1, 16), 16),
            ((15, 16), 16), ((1, 17), None), ((1, 30), None), ((16, 17), None), ((28, 29), None), ((4, 13), None),
        ):
            with self.subTest(fraction):
                self.assertEqual(least_last(fraction), wanted)

    def test_wrong_fractions(self):
        checks.check_refused(self, least_last, samples.wrong_fractions(), InvalidFraction)


class GeneralTest(unittest.TestCase):
    functions = (least_last, lambda fraction: small_sums(fraction, 16))

    def fail_often(self):
        for function in self.functions:
            checks.check_refused(self, function, samples.wrong_fractions(), InvalidFraction)
        checks.check_refused(
            self, lambda value: small_sums((2, 3), value), samples.wrong_numbers(2, 16), InvalidNumber)

    def test_arguments_are_not_modified(self):
        for function in self.functions:
            checks.check_unchanged(self, function, InvalidFraction)

    def test_a_wrong_greatest_part_is_not_modified(self):
        for most in samples.changeable_values():
            with self.subTest(most):
                before = copy.deepcopy(most)
                with self.assertRaises(InvalidNumber):
                    small_sums((2, 3), most)
                self.assertEqual(most, before)

    def test_equal_calls_return_equal_results(self):
        for function in self.functions:
            checks.check_repeated(self, function, self.fail_often)

    def test_a_returned_list_that_is_changed_changes_no_later_result(self):
        for most in (6, 12, 16):
            checks.check_new_list(self, lambda fraction: small_sums(fraction, most))

    def test_a_tuple_of_an_own_class_gives_the_same_result(self):
        self.assertEqual(small_sums(samples.Pair(2, 3), 12), [(2, 6), (3, 4, 12)])
        self.assertEqual(least_last(samples.Pair(2, 3)), 6)

    def test_no_call_takes_long(self):
        for function in self.functions:
            checks.check_quick(self, function)


if __name__ == "__main__":
    unittest.main()
