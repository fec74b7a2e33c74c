"""Tests of oneparts.fractions."""

import copy
import unittest
from fractions import Fraction
from math import gcd

from oneparts import fractions
from oneparts.errors import InvalidFraction, InvalidSum
from oneparts.fractions import is_fraction, is_sum, is_sum_of, total
from tests import samples


def added(parts):
    return sum((Fraction(1, part) for part in parts), Fraction(0))


class InterfaceTest(unittest.TestCase):
    def test_the_functions_are_defined_in_this_file(self):
        for function in (is_fraction, is_sum, total, is_sum_of):
            with self.subTest(function):
                self.assertEqual(function.__module__, "oneparts.fractions")
                self.assertIs(getattr(fractions, function.__name__), function)

    def test_the_arguments_have_the_names_of_the_interface(self):
        self.assertIs(is_fraction(value=(2, 3)), True)
        self.assertIs(is_sum(value=(2, 6)), True)
        self.assertEqual(total(value=(2, 6)), (2, 3))
        self.assertIs(is_sum_of(fraction=(2, 3), value=(2, 6)), True)

    def test_examples(self):
        self.assertIs(is_fraction((2, 3)), True)
        self.assertEqual(total((2, 6)), (2, 3))
        self.assertIs(is_sum_of((2, 3), (2, 6)), True)


class IsFractionTest(unittest.TestCase):
    def test_every_pair_of_integers_up_to_40(self):
        for a in range(-3, 41):
            for b in range(-3, 41):
                with self.subTest(a=a, b=b):
                    wanted = 0 < a < b <= 30 and gcd(a, b) == 1
                    self.assertIs(is_fraction((a, b)), wanted)

    def test_there_are_277_fractions(self):
        self.assertEqual(len(samples.all_fractions()), 277)
        for fraction in samples.all_fractions():
            with self.subTest(fraction):
                self.assertIs(is_fraction(fraction), True)

    def test_the_greatest_b(self):
        self.assertIs(is_fraction((1, 30)), True)
        self.assertIs(is_fraction((29, 30)), True)
        self.assertIs(is_fraction((1, 31)), False)
        self.assertIs(is_fraction((30, 31)), False)

    def test_a_is_above_0_and_less_than_b(self):
        self.assertIs(is_fraction((1, 2)), True)
        self.assertIs(is_fraction((0, 1)), False)
        self.assertIs(is_fraction((0, 7)), False)
        self.assertIs(is_fraction((1, 1)), False)
        self.assertIs(is_fraction((7, 7)), False)
        self.assertIs(is_fraction((8, 7)), False)
        self.assertIs(is_fraction((-1, 7)), False)

    def test_a_common_divisor(self):
        self.assertIs(is_fraction((2, 4)), False)
        self.assertIs(is_fraction((14, 21)), False)
        self.assertIs(is_fraction((14, 27)), True)

    def test_a_list_is_no_fraction(self):
        self.assertIs(is_fraction([2, 3]), False)

    def test_true_and_false_are_no_integers(self):
        self.assertIs(is_fraction((1, 2)), True)
        self.assertIs(is_fraction((True, 2)), False)
        self.assertIs(is_fraction((False, 2)), False)
        self.assertIs(is_fraction((1, True)), False)
        self.assertIs(is_fraction((False, True)), False)

    def test_a_tuple_of_an_own_class_is_a_tuple(self):
        self.assertIs(is_fraction(samples.Pair(2, 3)), True)
        self.assertIs(is_fraction(samples.Pair(3, 2)), False)

    def test_wrong_values(self):
        for at, value in enumerate(samples.wrong_fractions()):
            with self.subTest(at):
                self.assertIs(is_fraction(value), False)


class IsSumTest(unittest.TestCase):
    def test_sums(self):
        for value in samples.sample_sums() + samples.long_sums():
            with self.subTest(parts=len(value)):
                self.assertIs(is_sum(value), True)

    def test_the_sum_without_parts(self):
        self.assertIs(is_sum(()), True)

    def test_parts_are_from_2_on(self):
        self.assertIs(is_sum((2,)), True)
        self.assertIs(is_sum((1,)), False)
        self.assertIs(is_sum((2, 3)), True)
        self.assertIs(is_sum((1, 3)), False)
        self.assertIs(is_sum((0, 3)), False)
        self.assertIs(is_sum((-2, 3)), False)

    def test_equal_parts(self):
        self.assertIs(is_sum((2, 2)), False)
        self.assertIs(is_sum((2, 3, 3)), False)
        self.assertIs(is_sum((2, 5, 5, 7)), False)

    def test_descending_parts(self):
        self.assertIs(is_sum((6, 2)), False)
        self.assertIs(is_sum((2, 6, 3)), False)
        self.assertIs(is_sum((3, 2, 6)), False)

    def test_all_triples_of_small_integers(self):
        for a in range(-1, 6):
            for b in range(-1, 6):
                for c in range(-1, 6):
                    with self.subTest(a=a, b=b, c=c):
                        self.assertIs(is_sum((a, b, c)), 2 <= a < b < c)

    def test_a_list_is_no_sum(self):
        self.assertIs(is_sum([]), False)
        self.assertIs(is_sum([2, 6]), False)

    def test_true_and_false_are_no_integers(self):
        for value in ((True,), (False,), (2, True), (True, 2), (False, 2), (2, False), (False, True)):
            with self.subTest(value):
                self.assertIs(is_sum(value), False)

    def test_wrong_values(self):
        for at, value in enumerate(samples.no_sums()):
            with self.subTest(at):
                self.assertIs(is_sum(value), False)


class TotalTest(unittest.TestCase):
    def check(self, value, wanted):
        found = total(value)
        self.assertIs(type(found), tuple)
        self.assertEqual([type(number) for number in found], [int, int])
        self.assertEqual(found, wanted)

    def test_the_sum_without_parts(self):
        self.check((), (0, 1))

    def test_one_part(self):
        for part in (2, 3, 10, 30, 31, 9998, 9999):
            with self.subTest(part):
                self.check((part,), (1, part))

    def test_lowest_terms(self):
        self.check((3, 6), (1, 2))
        self.check((6, 10, 15), (1, 3))
        self.check((4, 18, 468), (4, 13))
        self.check((10, 15), (1, 6))

    def test_a_result_of_1_or_above(self):
        self.check((2, 3, 6), (1, 1))
        self.check((2, 3, 4), (13, 12))
        self.check((2, 3, 4, 5, 6, 7), (223, 140))
        self.check((2, 3, 4, 5, 6, 8, 9, 10, 15, 18, 20, 24), (2, 1))

    def test_what_is_left_of_a_common_divisor(self):
        for value in samples.sample_sums():
            with self.subTest(value):
                wanted = added(value)
                self.check(value, (wanted.numerator, wanted.denominator))
                upper, lower = total(value)
                self.assertEqual(gcd(upper, lower), 1)
                self.assertGreater(lower, 0)

    def test_all_sums_of_three_small_parts(self):
        for a in range(2, 20):
            for b in range(a + 1, 20):
                for c in range(b + 1, 20):
                    wanted = added((a, b, c))
                    self.assertEqual(total((a, b, c)), (wanted.numerator, wanted.denominator))

    def test_twelve_and_thirteen_parts(self):
        wanted = added(range(2, 14))
        self.check(tuple(range(2, 14)), (wanted.numerator, wanted.denominator))
        with self.assertRaises(InvalidSum):
            total(tuple(range(2, 15)))

    def test_the_parts_9999_and_10000(self):
        self.check((9999,), (1, 9999))
        self.check((2, 9999), (10001, 19998))
        for value in ((10000,), (2, 10000), (9999, 10000), (2, 3, 10000)):
            with self.subTest(value):
                with self.assertRaises(InvalidSum):
                    total(value)

    def test_too_long_sums(self):
        for value in samples.long_sums():
            with self.subTest(parts=len(value)):
                with self.assertRaises(InvalidSum):
                    total(value)

    def test_values_that_are_no_sums(self):
        for at, value in enumerate(samples.no_sums()):
            with self.subTest(at):
                with self.assertRaises(InvalidSum):
                    total(value)


class IsSumOfTest(unittest.TestCase):
    def test_sums_of_the_fraction(self):
        for fraction, value in (
            ((1, 2), (2,)), ((1, 2), (3, 6)), ((2, 3), (3, 4, 12)), ((5, 6), (2, 3)), ((4, 13), (4, 18, 468)),
            ((1, 30), (30,)), ((1, 30), (31, 930)), ((29, 30), (2, 3, 10, 30)), ((1, 6), (10, 15)),
        ):
            with self.subTest(fraction, value=value):
                self.assertIs(is_sum_of(fraction, value), True)

    def test_a_sum_may_have_many_parts_and_great_parts(self):
        self.assertIs(is_sum_of((1, 2), (3, 7, 43, 1806)), True)
        self.assertIs(is_sum_of((1, 2), (3, 7, 43, 1807, 1806 * 1807)), True)
        doubled = tuple(2 ** k for k in range(1, 20))
        self.assertIs(is_sum_of((1, 2), doubled), False)
        self.assertIs(is_sum_of((2, 3), doubled[1:] + (3 * 2 ** 18,)), False)
        self.assertIs(is_sum_of((1, 2), doubled[1:-1] + (3 * 2 ** 17, 3 * 2 ** 18)), True)

    def test_sums_of_another_fraction(self):
        for fraction, value in (
            ((2, 3), (2,)), ((2, 3), (2, 7)), ((2, 3), (2, 3)), ((1, 2), (2, 3, 6)), ((1, 2), (2, 9999)),
            ((1, 2), (2, 10 ** 5000)), ((1, 30), (31,)), ((1, 30), (29,)),
        ):
            with self.subTest(fraction):
                self.assertIs(is_sum_of(fraction, value), False)

    def test_the_sum_without_parts_is_a_sum_of_no_fraction(self):
        for fraction in samples.all_fractions():
            with self.subTest(fraction):
                self.assertIs(is_sum_of(fraction, ()), False)

    def test_every_fraction_and_every_sample(self):
        sums = samples.sample_sums() + samples.long_sums()
        totals = [added(value) for value in sums]
        for fraction in samples.all_fractions():
            for value, wanted in zip(sums, totals):
                with self.subTest(fraction, parts=len(value)):
                    self.assertIs(is_sum_of(fraction, value), Fraction(*fraction) == wanted)

    def test_values_that_are_no_sums(self):
        for at, value in enumerate(samples.no_sums()):
            with self.subTest(at):
                self.assertIs(is_sum_of((2, 3), value), False)

    def test_parts_that_add_up_without_being_a_sum(self):
        self.assertIs(is_sum_of((2, 3), (6, 2)), False)
        self.assertIs(is_sum_of((2, 3), (3, 3)), False)
        self.assertIs(is_sum_of((2, 3), [2, 6]), False)
        self.assertIs(is_sum_of((1, 2), (1, -2)), False)

    def test_wrong_fractions(self):
        for at, fraction in enumerate(samples.wrong_fractions()):
            with self.subTest(at):
                with self.assertRaises(InvalidFraction):
                    is_sum_of(fraction, (2, 6))

    def test_a_wrong_fraction_is_told_before_a_value_that_is_no_sum(self):
        for value in ((), (3, 2), (1,), None, [2, 6], samples.Unshowable()):
            for fraction in ((2, 4), (1, 31), None, [2, 3]):
                with self.subTest(fraction):
                    with self.assertRaises(InvalidFraction):
                        is_sum_of(fraction, value)

    def test_a_fraction_that_is_equal_to_the_sum_but_not_in_lowest_terms(self):
        with self.assertRaises(InvalidFraction):
            is_sum_of((4, 6), (2, 6))


class GeneralTest(unittest.TestCase):
    def test_arguments_are_not_modified(self):
        for value in ([2, 3], [2, 6], [], {2: 3}, {2, 3}, bytearray(b"\x02\x03"), ([2], 3), (2, [3]), (2, 6), (2, 3)):
            with self.subTest(value):
                before = copy.deepcopy(value)
                is_fraction(value)
                is_sum(value)
                is_sum_of((2, 3), value)
                for function in (total, lambda wrong: is_sum_of(wrong, (2, 6))):
                    try:
                        function(value)
                    except (InvalidFraction, InvalidSum):
                        pass
                self.assertEqual(value, before)

    def test_equal_calls_return_equal_results(self):
        for value in samples.sample_sums() + samples.all_fractions():
            with self.subTest(value):
                same = tuple(list(value))
                self.assertEqual(is_fraction(value), is_fraction(same))
                self.assertEqual(is_sum(value), is_sum(same))
                self.assertEqual(is_sum_of((2, 3), value), is_sum_of((2, 3), same))
        for value in samples.sample_sums():
            with self.subTest(value):
                self.assertEqual(total(value), total(tuple(list(value))))

    def test_an_error_changes_no_later_result(self):
        before = [total(value) for value in samples.sample_sums()]
        for value in samples.no_sums():
            self.assertRaises(InvalidSum, total, value)
        self.assertEqual([total(value) for value in samples.sample_sums()], before)


if __name__ == "__main__":
    unittest.main()
