"""Tests of oneparts.pairs."""

import unittest
from fractions import Fraction

from oneparts.errors import InvalidFraction
from oneparts.fractions import is_sum_of
from oneparts.pairs import has_pair, pairs
from tests import checks, samples


def tried_pairs(fraction):
    """Return all sums of two parts, by trying first parts one by one."""
    whole = Fraction(*fraction)
    found = []
    first = 2
    # The first part is the greater one, so that it is more than half of the whole.
    while Fraction(2, first) > whole:
        left = whole - Fraction(1, first)
        if left > 0 and left.numerator == 1:
            found.append((first, left.denominator))
        first += 1
    return found


class InterfaceTest(unittest.TestCase):
    def test_the_functions_are_defined_in_this_file(self):
        checks.check_defined(self, (has_pair, pairs), "oneparts.pairs")

    def test_the_arguments_have_the_names_of_the_interface(self):
        self.assertIs(has_pair(fraction=(2, 3)), True)
        self.assertEqual(pairs(fraction=(2, 3)), [(2, 6)])

    def test_examples(self):
        self.assertIs(has_pair((4, 13)), False)
        self.assertEqual(pairs((2, 15)), [(8, 120), (9, 45), (10, 30), (12, 20)])


class HasPairTest(unittest.TestCase):
    def test_every_fraction_against_trying_first_parts(self):
        for fraction in samples.all_fractions():
            with self.subTest(fraction):
                self.assertIs(has_pair(fraction), tried_pairs(fraction) != [])

    def test_it_is_true_exactly_where_pairs_is_not_empty(self):
        for fraction in samples.all_fractions():
            with self.subTest(fraction):
                self.assertIs(has_pair(fraction), pairs(fraction) != [])

    def test_single_fractions(self):
        for fraction in ((1, 2), (1, 30), (2, 3), (2, 29), (3, 4), (5, 6), (11, 30), (8, 15), (17, 30)):
            with self.subTest(fraction):
                self.assertIs(has_pair(fraction), True)
        for fraction in ((3, 7), (4, 5), (4, 13), (7, 8), (8, 11), (16, 17), (28, 29), (29, 30)):
            with self.subTest(fraction):
                self.assertIs(has_pair(fraction), False)

    def test_wrong_fractions(self):
        checks.check_refused(self, has_pair, samples.wrong_fractions(), InvalidFraction)


class PairsTest(unittest.TestCase):
    def test_every_fraction_against_trying_first_parts(self):
        for fraction in samples.all_fractions():
            with self.subTest(fraction):
                self.assertEqual(pairs(fraction), tried_pairs(fraction))

    def test_an_ascending_list_of_sums_of_two_parts(self):
        for fraction in samples.all_fractions():
            with self.subTest(fraction):
                found = pairs(fraction)
                checks.check_sums(self, fraction, found)
                for value in found:
                    self.assertEqual(len(value), 2)
                    self.assertIs(is_sum_of(fraction, value), True)

    def test_single_fractions(self):
        for fraction, wanted in (
            ((1, 2), [(3, 6)]), ((1, 3), [(4, 12)]), ((1, 4), [(5, 20), (6, 12)]), ((3, 4), [(2, 4)]),
            ((5, 6), [(2, 3)]), ((2, 3), [(2, 6)]), ((1, 29), [(30, 870)]), ((2, 29), [(15, 435)]),
            ((1, 6), [(7, 42), (8, 24), (9, 18), (10, 15)]), ((4, 13), []), ((29, 30), []), ((4, 5), []),
        ):
            with self.subTest(fraction):
                self.assertEqual(pairs(fraction), wanted)

    def test_a_sum_for_each_divisor_of_the_square_that_is_less_than_b(self):
        found = pairs((1, 30))
        self.assertEqual(len(found), 13)
        self.assertEqual(found[0], (31, 930))
        self.assertEqual(found[-1], (55, 66))

    def test_wrong_fractions(self):
        checks.check_refused(self, pairs, samples.wrong_fractions(), InvalidFraction)


class GeneralTest(unittest.TestCase):
    def fail_often(self):
        for function in (has_pair, pairs):
            checks.check_refused(self, function, samples.wrong_fractions(), InvalidFraction)

    def test_arguments_are_not_modified(self):
        for function in (has_pair, pairs):
            checks.check_unchanged(self, function, InvalidFraction)

    def test_equal_calls_return_equal_results(self):
        for function in (has_pair, pairs):
            checks.check_repeated(self, function, self.fail_often)

    def test_a_returned_list_that_is_changed_changes_no_later_result(self):
        checks.check_new_list(self, pairs)

    def test_a_tuple_of_an_own_class_gives_the_same_result(self):
        self.assertIs(has_pair(samples.Pair(4, 13)), False)
        self.assertEqual(pairs(samples.Pair(5, 6)), [(2, 3)])

    def test_no_call_takes_long(self):
        for function in (has_pair, pairs):
            checks.check_quick(self, function)


if __name__ == "__main__":
    unittest.main()
