"""Tests of oneparts.divisors."""

import unittest
from itertools import combinations

from oneparts.divisors import divisor_sum, divisors, is_full
from oneparts.errors import InvalidNumber
from oneparts.fractions import is_sum_of
from tests import checks, samples

NUMBERS = range(1, 201)


def tried_divisors(number):
    """Return all integers that divide the number, by multiplying."""
    pairs = [(one, other) for one in range(1, number + 1) for other in range(1, number // one + 1)]
    return sorted({one for one, other in pairs if one * other == number})


DIVISORS = {number: tried_divisors(number) for number in NUMBERS}


def ascending(rest):
    """Yield the strictly ascending tuples of the numbers in rest, in the order of tuples."""
    yield ()
    for at, number in enumerate(rest):
        for later in ascending(rest[at + 1:]):
            yield (number,) + later


def first_tuples(number):
    """Return, for each sum of different divisors, the first of the tuples that add up to it."""
    found = {}
    for value in ascending(DIVISORS[number]):
        found.setdefault(sum(value), value)
    return found


FIRST = {number: first_tuples(number) for number in NUMBERS}


def is_prime(number):
    return DIVISORS[number] == [1, number]


def full_by_the_rule(number):
    """Return whether the number is full by the rule of the odd primes."""
    if number == 1:
        return True
    if number % 2 != 0:
        return False
    for prime in DIVISORS[number]:
        if prime > 2 and is_prime(prime):
            factor = max(
                factor for factor in DIVISORS[number]
                if all(other < prime for other in DIVISORS[factor] if is_prime(other))
            )
            if sum(DIVISORS[factor]) < prime - 1:
                return False
    return True


class InterfaceTest(unittest.TestCase):
    def test_the_functions_are_defined_in_this_file(self):
        checks.check_defined(self, (divisors, is_full, divisor_sum), "oneparts.divisors")

    def test_the_arguments_have_the_names_of_the_interface(self):
        self.assertEqual(divisors(number=12), [1, 2, 3, 4, 6, 12])
        self.assertIs(is_full(number=12), True)
        self.assertEqual(divisor_sum(number=12, wanted=11), (1, 4, 6))

    def test_examples(self):
        self.assertEqual(divisors(12), [1, 2, 3, 4, 6, 12])
        self.assertIs(is_full(12), True)
        self.assertEqual(divisor_sum(12, 11), (1, 4, 6))


class DivisorsTest(unittest.TestCase):
    def test_every_number(self):
        for number in NUMBERS:
            with self.subTest(number):
                found = divisors(number)
                self.assertIs(type(found), list)
                self.assertEqual([type(divisor) for divisor in found], [int] * len(found))
                self.assertEqual(found, DIVISORS[number])

    def test_single_numbers(self):
        for number, wanted in (
            (1, [1]), (2, [1, 2]), (4, [1, 2, 4]), (30, [1, 2, 3, 5, 6, 10, 15, 30]), (169, [1, 13, 169]),
            (199, [1, 199]), (200, [1, 2, 4, 5, 8, 10, 20, 25, 40, 50, 100, 200]),
        ):
            with self.subTest(number):
                self.assertEqual(divisors(number), wanted)

    def test_wrong_numbers(self):
        checks.check_refused(self, divisors, samples.wrong_numbers(1, 200), InvalidNumber)

    def test_the_numbers_beside_the_limits(self):
        for number in (0, 201, -1, -12, -200, True, False, "12", None, [12], (12,)):
            with self.subTest(number):
                with self.assertRaises(InvalidNumber):
                    divisors(number)


class IsFullTest(unittest.TestCase):
    def test_small_numbers_by_all_sums_of_different_divisors(self):
        for number in range(1, 73):
            rows = [row for count in range(len(DIVISORS[number]) + 1) for row in combinations(DIVISORS[number], count)]
            reached = {sum(row) for row in rows}
            with self.subTest(number):
                self.assertIs(is_full(number), reached >= set(range(1, number + 1)))

    def test_every_number_by_the_sums_of_its_divisors(self):
        for number in NUMBERS:
            with self.subTest(number):
                self.assertIs(is_full(number), all(wanted in FIRST[number] for wanted in range(1, number + 1)))

    def test_every_number_by_the_rule_of_the_odd_primes(self):
        for number in NUMBERS:
            with self.subTest(number):
                self.assertIs(is_full(number), full_by_the_rule(number))

    def test_single_numbers(self):
        for number in (1, 2, 4, 6, 8, 12, 16, 18, 20, 24, 28, 30, 66, 78, 88, 104, 128, 150, 196, 198, 200):
            with self.subTest(number):
                self.assertIs(is_full(number), True)
        for number in (3, 5, 9, 10, 14, 15, 22, 25, 44, 45, 50, 52, 70, 102, 105, 135, 152, 190, 194, 199):
            with self.subTest(number):
                self.assertIs(is_full(number), False)

    def test_how_many_numbers_are_full(self):
        self.assertEqual(sum(is_full(number) for number in NUMBERS), 50)

    def test_wrong_numbers(self):
        checks.check_refused(self, is_full, samples.wrong_numbers(1, 200), InvalidNumber)

    def test_the_numbers_beside_the_limits(self):
        for number in (0, 201, -1, -2, True, False, "12", "", None, [], [12]):
            with self.subTest(number):
                with self.assertRaises(InvalidNumber):
                    is_full(number)


class DivisorSumTest(unittest.TestCase):
    def test_every_number_against_going_through_all_tuples(self):
        for number in NUMBERS:
            for wanted in range(sum(DIVISORS[number]) + 3):
                with self.subTest(number, wanted=wanted):
                    found = divisor_sum(number, wanted)
                    self.assertEqual(found, FIRST[number].get(wanted))
                    self.assertIs(type(found), type(FIRST[number].get(wanted)))

    def test_all_wanted_sums_for_some_numbers(self):
        for number in (1, 2, 7, 12, 70, 120, 180, 199, 200):
            for wanted in range(1000):
                with self.subTest(number, wanted=wanted):
                    self.assertEqual(divisor_sum(number, wanted), FIRST[number].get(wanted))

    def test_a_strictly_ascending_tuple_of_divisors_that_adds_up(self):
        for number in (30, 36, 48, 60, 105, 120, 144, 180, 200):
            for wanted in range(1000):
                found = divisor_sum(number, wanted)
                if found is not None:
                    with self.subTest(number, wanted=wanted):
                        self.assertEqual([type(divisor) for divisor in found], [int] * len(found))
                        self.assertEqual(list(found), sorted(set(found)))
                        self.assertTrue(set(found) <= set(DIVISORS[number]))
                        self.assertEqual(sum(found), wanted)

    def test_wanted_0_gives_the_tuple_without_divisors(self):
        for number in NUMBERS:
            with self.subTest(number):
                self.assertEqual(divisor_sum(number, 0), ())

    def test_the_sum_of_all_divisors_is_the_greatest_that_can_be_reached(self):
        for number in NUMBERS:
            with self.subTest(number):
                self.assertEqual(divisor_sum(number, sum(DIVISORS[number])), tuple(DIVISORS[number]))
                self.assertIsNone(divisor_sum(number, sum(DIVISORS[number]) + 1))
                self.assertIsNone(divisor_sum(number, 999))

    def test_sums_that_cannot_be_reached(self):
        for number, wanted in ((1, 2), (2, 4), (3, 2), (5, 2), (5, 4), (9, 2), (9, 8), (10, 4), (199, 198), (70, 4)):
            with self.subTest(number, wanted=wanted):
                self.assertIsNone(divisor_sum(number, wanted))

    def test_the_first_one_in_the_order_of_tuples(self):
        for number, wanted, first in (
            (12, 12, (1, 2, 3, 6)), (12, 6, (1, 2, 3)), (12, 5, (1, 4)), (12, 4, (1, 3)), (12, 3, (1, 2)),
            (12, 9, (1, 2, 6)), (12, 8, (1, 3, 4)), (12, 10, (1, 2, 3, 4)), (6, 6, (1, 2, 3)), (6, 5, (2, 3)),
            (6, 8, (2, 6)), (6, 12, (1, 2, 3, 6)),
            (20, 12, (1, 2, 4, 5)), (8, 7, (1, 2, 4)), (8, 8, (8,)), (3, 3, (3,)), (1, 1, (1,)),
        ):
            with self.subTest(number, wanted=wanted):
                self.assertEqual(divisor_sum(number, wanted), first)

    def test_a_full_number_reaches_all_up_to_the_sum_of_all_its_divisors(self):
        for number in NUMBERS:
            if is_full(number):
                for wanted in range(1, sum(DIVISORS[number]) + 1):
                    with self.subTest(number, wanted=wanted):
                        self.assertIsNotNone(divisor_sum(number, wanted))

    def test_fractions_are_sums_of_parts_that_are_divisors_of_a_full_number(self):
        for a, b in samples.all_fractions():
            for number in NUMBERS:
                if number % b == 0 and is_full(number):
                    with self.subTest(a=a, b=b, number=number):
                        found = divisor_sum(number, a * number // b)
                        parts = tuple(sorted(number // divisor for divisor in found))
                        self.assertIs(is_sum_of((a, b), parts), True)

    def test_wrong_numbers(self):
        for wanted in (0, 11, 999):
            checks.check_refused(
                self, lambda value: divisor_sum(value, wanted), samples.wrong_numbers(1, 200), InvalidNumber)

    def test_wrong_wanted_sums(self):
        for number in (1, 12, 200):
            checks.check_refused(
                self, lambda value: divisor_sum(number, value), samples.wrong_numbers(0, 999), InvalidNumber)

    def test_a_wrong_number_and_a_wrong_wanted_sum(self):
        for wanted in (-1, 1000, None, "11", samples.Unshowable()):
            checks.check_refused(
                self, lambda value: divisor_sum(value, wanted), samples.wrong_numbers(1, 200), InvalidNumber)

    def test_the_numbers_beside_the_limits(self):
        for number in (0, 201, -1, -12, True, False, "12", None, [12]):
            with self.subTest(number):
                with self.assertRaises(InvalidNumber):
                    divisor_sum(number, 11)
        for wanted in (-1, 1000, -11, True, False, "11", "", None, [], [11]):
            with self.subTest(wanted):
                with self.assertRaises(InvalidNumber):
                    divisor_sum(12, wanted)
        self.assertEqual(divisor_sum(1, 0), ())
        self.assertIsNone(divisor_sum(1, 999))
        self.assertEqual(divisor_sum(200, 0), ())
        self.assertIsNone(divisor_sum(200, 999))


class GeneralTest(unittest.TestCase):
    def number_rows(self):
        return [(number,) for number in NUMBERS]

    def sum_rows(self):
        return [(number, wanted) for number in range(1, 201, 7) for wanted in range(0, 1000, 37)]

    def wrong_rows(self):
        wrong = samples.changeable_values()
        return [(value, 11) for value in wrong] + [(12, value) for value in wrong]

    def test_arguments_are_not_modified(self):
        for function in (divisors, is_full):
            checks.check_all_unchanged(self, function, [(value,) for value in samples.changeable_values()])
        checks.check_all_unchanged(self, divisor_sum, self.wrong_rows())

    def test_equal_calls_return_equal_results(self):
        wrong = [(value,) for value in samples.wrong_numbers(1, 200)]
        for function in (divisors, is_full):
            checks.check_all_repeated(self, function, self.number_rows(), wrong)
        checks.check_all_repeated(self, divisor_sum, self.sum_rows(), self.wrong_rows())

    def test_a_returned_list_that_is_changed_changes_no_later_result(self):
        checks.check_all_new_lists(self, divisors, self.number_rows())
        for number in NUMBERS:
            with self.subTest(number):
                full, first = is_full(number), divisor_sum(number, number)
                divisors(number).clear()
                self.assertEqual(is_full(number), full)
                self.assertEqual(divisor_sum(number, number), first)

    def test_no_call_takes_long(self):
        for function in (divisors, is_full):
            checks.check_all_quick(self, function, self.number_rows())
        rows = [(number, wanted) for number in (120, 144, 168, 180, 192, 200) for wanted in range(1000)]
        checks.check_all_quick(self, divisor_sum, rows)


if __name__ == "__main__":
    unittest.main()
