"""Tests of oneparts.fewest."""

import copy
import unittest
from fractions import Fraction

from oneparts.errors import InvalidFraction, InvalidNumber
from oneparts.fewest import fewest, first_sum, sums
from oneparts.fractions import is_sum_of, total
from oneparts.greedy import greedy
from oneparts.pairs import pairs
from tests import checks, samples


def searched(left, count, least):
    """Yield the tuples of count parts from least on that add up to left, trying parts in ascending order."""
    if count == 1:
        if left.numerator == 1 and left.denominator >= least:
            yield (left.denominator,)
        return
    part = least
    # Once count parts of this size together are not more than what is left, no later part can be the first.
    while Fraction(count, part) > left:
        after = left - Fraction(1, part)
        if after > 0:
            for rest in searched(after, count - 1, part + 1):
                yield (part,) + rest
        part += 1


def searched_sums(fraction, count):
    """Return all sums with so many parts."""
    return list(searched(Fraction(*fraction), count, 2))


def searched_first(fraction):
    """Return the first of the sums with the fewest parts, by a search with one part, with two and so on."""
    count = 1
    while True:
        for value in searched(Fraction(*fraction), count, 2):
            return value
        count += 1


FIRST = {fraction: searched_first(fraction) for fraction in samples.all_fractions()}


class InterfaceTest(unittest.TestCase):
    def test_the_functions_are_defined_in_this_file(self):
        checks.check_defined(self, (fewest, first_sum, sums), "oneparts.fewest")

    def test_the_arguments_have_the_names_of_the_interface(self):
        self.assertEqual(fewest(fraction=(2, 3)), 2)
        self.assertEqual(first_sum(fraction=(2, 3)), (2, 6))
        self.assertEqual(sums(fraction=(5, 6), count=2), [(2, 3)])

    def test_examples(self):
        self.assertEqual(fewest((4, 13)), 3)
        self.assertEqual(first_sum((4, 13)), (4, 18, 468))
        self.assertEqual(sums((5, 6), 2), [(2, 3)])


class FewestTest(unittest.TestCase):
    def test_every_fraction_against_a_search(self):
        for fraction in samples.all_fractions():
            with self.subTest(fraction):
                found = fewest(fraction)
                self.assertIs(type(found), int)
                self.assertEqual(found, len(FIRST[fraction]))

    def test_no_sum_has_fewer_parts(self):
        for fraction in samples.all_fractions():
            for count in range(1, fewest(fraction)):
                with self.subTest(fraction, count=count):
                    self.assertEqual(searched_sums(fraction, count), [])

    def test_one_part_where_a_is_1(self):
        for fraction in samples.all_fractions():
            with self.subTest(fraction):
                self.assertEqual(fewest(fraction) == 1, fraction[0] == 1)

    def test_at_most_as_many_as_the_greedy_sum_has(self):
        for fraction in samples.all_fractions():
            with self.subTest(fraction):
                self.assertLessEqual(fewest(fraction), len(greedy(fraction)))

    def test_single_fractions(self):
        for fraction, wanted in (
            ((1, 2), 1), ((1, 30), 1), ((2, 3), 2), ((5, 6), 2), ((2, 29), 2), ((4, 5), 3), ((7, 8), 3), ((8, 11), 4),
            ((29, 30), 4), ((26, 29), 4), ((16, 17), 5), ((21, 23), 5), ((22, 23), 5), ((27, 29), 5), ((28, 29), 5),
        ):
            with self.subTest(fraction):
                self.assertEqual(fewest(fraction), wanted)

    def test_wrong_fractions(self):
        checks.check_refused(self, fewest, samples.wrong_fractions(), InvalidFraction)


class FirstSumTest(unittest.TestCase):
    def test_every_fraction_against_a_search(self):
        for fraction in samples.all_fractions():
            with self.subTest(fraction):
                self.assertEqual(first_sum(fraction), FIRST[fraction])

    def test_a_sum_of_the_fraction_with_the_fewest_parts(self):
        for fraction in samples.all_fractions():
            with self.subTest(fraction):
                value = first_sum(fraction)
                checks.check_sum(self, fraction, value)
                self.assertIs(is_sum_of(fraction, value), True)
                self.assertEqual(len(value), fewest(fraction))

    def test_the_first_of_all_sums_with_so_many_parts(self):
        for fraction in samples.all_fractions():
            if fewest(fraction) <= 3:
                with self.subTest(fraction):
                    self.assertEqual(first_sum(fraction), sums(fraction, fewest(fraction))[0])

    def test_single_fractions(self):
        for fraction, wanted in (
            ((1, 2), (2,)), ((1, 30), (30,)), ((2, 15), (8, 120)), ((4, 5), (2, 4, 20)),
            ((8, 11), (2, 5, 37, 4070)), ((29, 30), (2, 3, 8, 120)), ((16, 17), (2, 3, 10, 128, 32640)),
            ((28, 29), (2, 3, 8, 140, 24360)),
        ):
            with self.subTest(fraction):
                self.assertEqual(first_sum(fraction), wanted)

    def test_the_greedy_sum_may_have_more_parts(self):
        self.assertEqual(greedy((9, 20)), (3, 9, 180))
        self.assertEqual(first_sum((9, 20)), (4, 5))

    def test_wrong_fractions(self):
        checks.check_refused(self, first_sum, samples.wrong_fractions(), InvalidFraction)


class SumsTest(unittest.TestCase):
    def test_every_fraction_against_a_search(self):
        for fraction in samples.all_fractions():
            for count in (1, 2, 3):
                with self.subTest(fraction, count=count):
                    self.assertEqual(sums(fraction, count), searched_sums(fraction, count))

    def test_an_ascending_list_of_sums_with_so_many_parts(self):
        for fraction in samples.all_fractions():
            for count in (1, 2, 3):
                with self.subTest(fraction, count=count):
                    found = sums(fraction, count)
                    checks.check_sums(self, fraction, found)
                    for value in found:
                        self.assertEqual(len(value), count)

    def test_one_part(self):
        for a, b in samples.all_fractions():
            with self.subTest(a=a, b=b):
                self.assertEqual(sums((a, b), 1), [(b,)] if a == 1 else [])

    def test_two_parts_are_the_pairs(self):
        for fraction in samples.all_fractions():
            with self.subTest(fraction):
                self.assertEqual(sums(fraction, 2), pairs(fraction))

    def test_there_are_sums_with_every_number_of_parts_from_the_least_one_on(self):
        for fraction in samples.all_fractions():
            for count in (1, 2, 3):
                with self.subTest(fraction, count=count):
                    self.assertEqual(sums(fraction, count) != [], fewest(fraction) <= count)

    def test_no_sum_of_three_small_parts_is_missing(self):
        found = {fraction: sums(fraction, 3) for fraction in samples.all_fractions()}
        for a in range(2, 25):
            for b in range(a + 1, 25):
                for c in range(b + 1, 25):
                    fraction = total((a, b, c))
                    if fraction in found:
                        self.assertIn((a, b, c), found[fraction])

    def test_single_fractions(self):
        for fraction, count, wanted in (
            ((1, 2), 1, [(2,)]), ((1, 2), 2, [(3, 6)]), ((2, 3), 1, []), ((4, 5), 2, []),
            ((4, 5), 3, [(2, 4, 20), (2, 5, 10)]), ((8, 11), 3, []), ((29, 30), 3, []),
            ((1, 2), 3, [(3, 7, 42), (3, 8, 24), (3, 9, 18), (3, 10, 15), (4, 5, 20), (4, 6, 12)]),
        ):
            with self.subTest(fraction, count=count):
                self.assertEqual(sums(fraction, count), wanted)

    def test_a_great_last_part(self):
        self.assertEqual(sums((1, 30), 3)[0], (31, 931, 930 * 931))

    def test_wrong_fractions(self):
        for count in (1, 2, 3):
            checks.check_refused(self, lambda value: sums(value, count), samples.wrong_fractions(), InvalidFraction)

    def test_wrong_counts(self):
        for fraction in ((5, 6), (1, 2), (28, 29)):
            checks.check_refused(self, lambda value: sums(fraction, value), samples.wrong_numbers(1, 3), InvalidNumber)

    def test_the_counts_beside_the_limits(self):
        for count in (0, 4, -1, -2, -3, True, False, None, "1", "2", "", (), (2,), [], [2]):
            with self.subTest(count):
                with self.assertRaises(InvalidNumber):
                    sums((5, 6), count)

    def test_a_wrong_fraction_is_told_before_a_wrong_count(self):
        for count in (0, 4, -1, True, None, "2", (2,), [2], samples.Unshowable()):
            checks.check_refused(self, lambda value: sums(value, count), samples.wrong_fractions(), InvalidFraction)


class GeneralTest(unittest.TestCase):
    functions = (fewest, first_sum, lambda fraction: sums(fraction, 3))

    def fail_often(self):
        for function in self.functions:
            checks.check_refused(self, function, samples.wrong_fractions(), InvalidFraction)
        checks.check_refused(self, lambda value: sums((2, 3), value), samples.wrong_numbers(1, 3), InvalidNumber)

    def test_arguments_are_not_modified(self):
        for function in self.functions:
            checks.check_unchanged(self, function, InvalidFraction)

    def test_a_wrong_count_is_not_modified(self):
        for count in samples.changeable_values():
            with self.subTest(count):
                before = copy.deepcopy(count)
                with self.assertRaises(InvalidNumber):
                    sums((2, 3), count)
                self.assertEqual(count, before)

    def test_equal_calls_return_equal_results(self):
        for function in self.functions:
            checks.check_repeated(self, function, self.fail_often)

    def test_a_returned_list_that_is_changed_changes_no_later_result(self):
        for count in (1, 2, 3):
            checks.check_new_list(self, lambda fraction: sums(fraction, count))

    def test_a_tuple_of_an_own_class_gives_the_same_result(self):
        self.assertEqual(fewest(samples.Pair(4, 13)), 3)
        self.assertEqual(first_sum(samples.Pair(4, 13)), (4, 18, 468))
        self.assertEqual(sums(samples.Pair(5, 6), 2), [(2, 3)])

    def test_no_call_takes_long(self):
        for function in self.functions:
            checks.check_quick(self, function)


if __name__ == "__main__":
    unittest.main()
