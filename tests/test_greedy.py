"""Tests of oneparts.greedy."""

import copy
import unittest
from fractions import Fraction

from oneparts import greedy as module
from oneparts.errors import InvalidFraction
from oneparts.fractions import is_sum, is_sum_of
from oneparts.greedy import greatest, greedy
from tests import samples


def least_fitting(left):
    """Return the least n such that 1 divided by n is at most left, by trying them all."""
    n = 1
    while Fraction(1, n) > left:
        n += 1
    return n


class InterfaceTest(unittest.TestCase):
    def test_the_functions_are_defined_in_this_file(self):
        for function in (greatest, greedy):
            with self.subTest(function):
                self.assertEqual(function.__module__, "oneparts.greedy")
                self.assertIs(getattr(module, function.__name__), function)

    def test_the_arguments_have_the_names_of_the_interface(self):
        self.assertEqual(greatest(fraction=(2, 3)), 2)
        self.assertEqual(greedy(fraction=(2, 3)), (2, 6))

    def test_examples(self):
        self.assertEqual(greatest((2, 3)), 2)
        self.assertEqual(greedy((4, 13)), (4, 18, 468))


class GreatestTest(unittest.TestCase):
    def test_every_fraction(self):
        for fraction in samples.all_fractions():
            with self.subTest(fraction):
                found = greatest(fraction)
                self.assertIs(type(found), int)
                self.assertEqual(found, least_fitting(Fraction(*fraction)))

    def test_one_part_fits_in_itself(self):
        for b in range(2, 31):
            with self.subTest(b):
                self.assertEqual(greatest((1, b)), b)

    def test_fractions_beside_a_part(self):
        self.assertEqual(greatest((2, 29)), 15)
        self.assertEqual(greatest((29, 30)), 2)
        self.assertEqual(greatest((14, 29)), 3)
        self.assertEqual(greatest((15, 29)), 2)

    def test_wrong_fractions(self):
        for at, fraction in enumerate(samples.wrong_fractions()):
            with self.subTest(at):
                with self.assertRaises(InvalidFraction):
                    greatest(fraction)


class GreedyTest(unittest.TestCase):
    def test_the_parts_add_up_to_the_fraction(self):
        for fraction in samples.all_fractions():
            with self.subTest(fraction):
                parts = greedy(fraction)
                self.assertEqual(sum(Fraction(1, part) for part in parts), Fraction(*fraction))
                self.assertIs(is_sum(parts), True)
                self.assertIs(is_sum_of(fraction, parts), True)

    def test_each_part_is_the_greatest_that_fits_in_what_is_left(self):
        for fraction in samples.all_fractions():
            with self.subTest(fraction):
                left = Fraction(*fraction)
                for part in greedy(fraction):
                    self.assertGreater(left, 0)
                    self.assertLessEqual(Fraction(1, part), left)
                    self.assertGreater(Fraction(1, part - 1), left)
                    left -= Fraction(1, part)
                self.assertEqual(left, 0)

    def test_the_first_part_is_the_greatest_that_fits(self):
        for fraction in samples.all_fractions():
            with self.subTest(fraction):
                self.assertEqual(greedy(fraction)[0], greatest(fraction))

    def test_there_are_at_most_a_parts(self):
        for fraction in samples.all_fractions():
            with self.subTest(fraction):
                self.assertLessEqual(len(greedy(fraction)), fraction[0])

    def test_what_is_left_has_a_lesser_upper_integer_each_time(self):
        for fraction in samples.all_fractions():
            with self.subTest(fraction):
                left = Fraction(*fraction)
                for part in greedy(fraction):
                    after = left - Fraction(1, part)
                    self.assertLess(after.numerator, left.numerator)
                    left = after

    def test_the_result_is_a_tuple_of_integers(self):
        for fraction in samples.all_fractions():
            with self.subTest(fraction):
                parts = greedy(fraction)
                self.assertIs(type(parts), tuple)
                self.assertEqual([type(part) for part in parts], [int] * len(parts))

    def test_single_sums(self):
        for fraction, wanted in (
            ((1, 2), (2,)), ((1, 30), (30,)), ((2, 3), (2, 6)), ((3, 4), (2, 4)), ((5, 6), (2, 3)),
            ((2, 29), (15, 435)), ((29, 30), (2, 3, 8, 120)), ((2, 15), (8, 120)), ((9, 20), (3, 9, 180)),
        ):
            with self.subTest(fraction):
                self.assertEqual(greedy(fraction), wanted)

    def test_wrong_fractions(self):
        for at, fraction in enumerate(samples.wrong_fractions()):
            with self.subTest(at):
                with self.assertRaises(InvalidFraction):
                    greedy(fraction)


class GeneralTest(unittest.TestCase):
    def test_arguments_are_not_modified(self):
        for function in (greatest, greedy):
            for value in ([2, 3], [], {2: 3}, {2, 3}, bytearray(b"\x02\x03"), ([2], 3), (2, [3]), ({}, {})):
                with self.subTest(value):
                    before = copy.deepcopy(value)
                    self.assertRaises(InvalidFraction, function, value)
                    self.assertEqual(value, before)
            for fraction in ((2, 3), (4, 13), (29, 30)):
                with self.subTest(fraction):
                    before = tuple(list(fraction))
                    function(fraction)
                    self.assertEqual(fraction, before)

    def test_equal_calls_return_equal_results(self):
        for function in (greatest, greedy):
            first = [function(fraction) for fraction in samples.all_fractions()]
            for value in samples.wrong_fractions():
                self.assertRaises(InvalidFraction, function, value)
            second = [function(fraction) for fraction in samples.all_fractions()]
            self.assertEqual(first, second)

    def test_a_tuple_of_an_own_class_gives_the_same_result(self):
        self.assertEqual(greatest(samples.Pair(4, 13)), 4)
        self.assertEqual(greedy(samples.Pair(4, 13)), (4, 18, 468))


if __name__ == "__main__":
    unittest.main()
