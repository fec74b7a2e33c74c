"""Tests of oneparts.splitting."""

import unittest
from fractions import Fraction
from itertools import combinations

from oneparts.errors import CannotSplit, InvalidSum, NotThere
from oneparts.fractions import is_sum, total
from oneparts.splitting import split, splittable
from tests import checks, samples

# Parts of which many are one more than another one, or the product of another one and the next integer.
CLOSE_PARTS = (2, 3, 4, 5, 6, 7, 12, 20, 30, 42)


def close_sums():
    """Return all sums of the close parts, the sum without parts first."""
    return [value for count in range(len(CLOSE_PARTS) + 1) for value in combinations(CLOSE_PARTS, count)]


def other_sums():
    """Return sums with great parts, with eleven parts, or of both kinds."""
    return [
        (2,), (99,), (2, 99), (98, 99), (9, 90), (8, 72), (9, 10), (9, 10, 90), (50, 51, 99), (4, 18, 46),
        tuple(range(2, 13)), tuple(range(89, 100)), tuple(range(2, 24, 2)), (2, 3, 4, 5, 6, 7, 8, 9, 10, 11, 99),
    ]


def all_sums():
    return close_sums() + other_sums()


def long_sums():
    """Return sums that have more than 11 parts, or parts above 99."""
    return samples.long_sums() + [
        tuple(range(2, 14)), tuple(range(88, 100)), tuple(range(89, 101)), (100,), (2, 100), (99, 100), (101,),
        (2, 3, 6, 100), tuple(range(90, 101)), (9999,), (2, 9999),
    ]


def wrong_sums():
    return samples.no_sums() + long_sums()


def new_parts(part):
    """Return the set of what the part is replaced by."""
    return {part + 1, part * (part + 1)}


def can_be_split(value, part):
    return not set(value) & new_parts(part)


class InterfaceTest(unittest.TestCase):
    def test_the_functions_are_defined_in_this_file(self):
        checks.check_defined(self, (split, splittable), "oneparts.splitting")

    def test_the_arguments_have_the_names_of_the_interface(self):
        self.assertEqual(split(value=(2, 6), part=6), (2, 7, 42))
        self.assertEqual(splittable(value=(2, 3)), [3])

    def test_examples(self):
        self.assertEqual(split((2, 6), 6), (2, 7, 42))
        self.assertEqual(splittable((2, 3)), [3])


class SplitTest(unittest.TestCase):
    def test_every_part_of_every_sum_against_the_words_of_the_point(self):
        for value in all_sums():
            for part in value:
                with self.subTest(value, part=part):
                    if can_be_split(value, part):
                        wanted = set(value) - {part} | new_parts(part)
                        self.assertEqual(split(value, part), tuple(sorted(wanted)))
                    else:
                        self.assertRaises(CannotSplit, split, value, part)

    def test_the_result_is_a_sum_that_adds_up_to_the_same(self):
        for value in all_sums():
            wanted = total(value)
            for part in value:
                if can_be_split(value, part):
                    with self.subTest(value, part=part):
                        found = split(value, part)
                        self.assertIs(type(found), tuple)
                        self.assertEqual([type(new) for new in found], [int] * len(found))
                        self.assertIs(is_sum(found), True)
                        self.assertEqual(len(found), len(value) + 1)
                        self.assertEqual(total(found), wanted)

    def test_every_single_part(self):
        for part in range(2, 100):
            with self.subTest(part):
                self.assertEqual(split((part,), part), (part + 1, part * (part + 1)))
                self.assertEqual(sum(Fraction(1, new) for new in split((part,), part)), Fraction(1, part))

    def test_the_last_part_can_always_be_split(self):
        for value in all_sums():
            if value:
                with self.subTest(value):
                    last = value[-1]
                    self.assertEqual(split(value, last), value[:-1] + (last + 1, last * (last + 1)))

    def test_the_new_parts_are_put_in_ascending_order(self):
        self.assertEqual(split((2, 5), 2), (3, 5, 6))
        self.assertEqual(split((2, 4, 5, 7), 2), (3, 4, 5, 6, 7))
        self.assertEqual(split((2, 7), 2), (3, 6, 7))
        self.assertEqual(split((3, 11, 13), 3), (4, 11, 12, 13))

    def test_a_part_is_not_split_where_a_new_part_is_there(self):
        for value, part in (((2, 3), 2), ((2, 6), 2), ((2, 3, 6), 2), ((3, 4), 3), ((3, 12), 3), ((9, 90), 9)):
            with self.subTest(value, part=part):
                with self.assertRaises(CannotSplit):
                    split(value, part)

    def test_eleven_and_twelve_parts(self):
        value = tuple(range(2, 13))
        self.assertEqual(split(value, 12), tuple(range(2, 12)) + (13, 156))
        for value in (tuple(range(2, 14)), tuple(range(88, 100))):
            with self.assertRaises(InvalidSum):
                split(value, value[-1])

    def test_the_parts_99_and_100(self):
        self.assertEqual(split((99,), 99), (100, 9900))
        self.assertEqual(split((2, 99), 99), (2, 100, 9900))
        self.assertEqual(split((2, 99), 2), (3, 6, 99))
        for value in ((100,), (2, 100), (99, 100)):
            for part in value:
                with self.subTest(value, part=part):
                    with self.assertRaises(InvalidSum):
                        split(value, part)

    def test_wrong_sums(self):
        for part in (2, 6, 100, -1, None):
            checks.check_refused(self, lambda value: split(value, part), wrong_sums(), InvalidSum)

    def test_integers_that_are_none_of_the_parts(self):
        for value in ((), (2, 6), (3, 4, 12), (99,), tuple(range(2, 13))):
            for part in [*range(-3, 101), 10 ** 5000, -(10 ** 5000)]:
                if part not in value:
                    with self.subTest(value):
                        with self.assertRaises(NotThere):
                            split(value, part)

    def test_the_new_parts_are_none_of_the_parts(self):
        for part in (3, 7, 42):
            with self.subTest(part):
                with self.assertRaises(NotThere):
                    split((2, 6), part)

    def test_objects_that_are_no_integers_are_none_of_the_parts(self):
        wrong = [part for part in samples.no_tuples() + samples.no_integers() if not isinstance(part, float)]
        for value in ((), (5, 6), (4, 12, 99)):
            parts = [part for part in wrong if type(part) is not int or part not in value]
            checks.check_refused(self, lambda part: split(value, part), parts, NotThere)

    def test_kinds_of_parts_that_the_document_refuses(self):
        for part in (True, False, None, "2", "6", "", b"6", [], [6], (6,), (), {6}, {6: 6}, 6 + 0j):
            with self.subTest(part):
                with self.assertRaises(NotThere):
                    split((2, 6), part)

    def test_a_wrong_sum_is_told_before_a_part_that_is_not_there(self):
        for part in (0, 1, 5, True, None, "2", [2], samples.Unshowable()):
            checks.check_refused(self, lambda value: split(value, part), wrong_sums(), InvalidSum)

    def test_a_wrong_sum_is_told_before_a_part_that_cannot_be_split(self):
        for value in ((2, 3, 100), tuple(range(2, 14)), (2, 3, 3), [2, 3], (3, 2), (1, 2, 3)):
            with self.subTest(value):
                with self.assertRaises(InvalidSum):
                    split(value, 2)

    def test_a_part_that_is_not_there_is_told_before_one_that_cannot_be_split(self):
        for value, part in (((3,), 2), ((6,), 2), ((3, 6), 2), ((2, 6), 5), ((2, 30), 5)):
            with self.subTest(value, part=part):
                with self.assertRaises(NotThere):
                    split(value, part)


class SplittableTest(unittest.TestCase):
    def test_every_sum_against_the_words_of_the_point(self):
        for value in all_sums():
            with self.subTest(value):
                found = splittable(value)
                self.assertIs(type(found), list)
                self.assertEqual(found, [part for part in value if can_be_split(value, part)])

    def test_exactly_the_parts_that_split_accepts(self):
        for value in all_sums():
            with self.subTest(value):
                accepted = [part for part in value if checks.outcome(split, (value, part)) is not CannotSplit]
                self.assertEqual(splittable(value), accepted)

    def test_the_last_part_is_always_among_them(self):
        for value in all_sums():
            if value:
                with self.subTest(value):
                    self.assertEqual(splittable(value)[-1], value[-1])

    def test_single_sums(self):
        for value, wanted in (
            ((), []), ((2,), [2]), ((99,), [99]), ((2, 6), [6]), ((2, 3, 6), [3, 6]), ((3, 4, 12), [4, 12]),
            ((2, 4), [2, 4]), ((2, 5, 30), [2, 30]), (tuple(range(2, 13)), [12]), (tuple(range(89, 100)), [99]),
            ((8, 10, 72), [10, 72]),
        ):
            with self.subTest(value):
                self.assertEqual(splittable(value), wanted)

    def test_wrong_sums(self):
        checks.check_refused(self, splittable, wrong_sums(), InvalidSum)

    def test_the_sums_beside_the_limits(self):
        self.assertEqual(splittable((98, 99)), [99])
        for value in ((98, 100), (99, 100), (100,), tuple(range(2, 14)), tuple(range(88, 100))):
            with self.subTest(value):
                with self.assertRaises(InvalidSum):
                    splittable(value)


class GeneralTest(unittest.TestCase):
    def split_rows(self):
        return [(value, part) for value in all_sums() for part in value + (1, 8)]

    def wrong_rows(self):
        wrong = samples.changeable_values()
        rows = [(value, 2) for value in wrong]
        rows += [((2, 6), part) for part in wrong]
        return rows + [(value, part) for value in wrong for part in wrong]

    def test_arguments_are_not_modified(self):
        checks.check_all_unchanged(self, split, self.split_rows() + self.wrong_rows())
        checks.check_all_unchanged(self, splittable, [(value,) for value in all_sums()])
        checks.check_all_unchanged(self, splittable, [(value,) for value in samples.changeable_values()])

    def test_equal_calls_return_equal_results(self):
        checks.check_all_repeated(self, split, self.split_rows(), self.wrong_rows())
        wrong = [(value,) for value in wrong_sums()]
        checks.check_all_repeated(self, splittable, [(value,) for value in all_sums()], wrong)

    def test_a_returned_list_that_is_changed_changes_no_later_result(self):
        checks.check_all_new_lists(self, splittable, [(value,) for value in all_sums()])

    def test_a_tuple_of_an_own_class_gives_the_same_result(self):
        found = split(samples.Pair(2, 6), 6)
        self.assertEqual(found, (2, 7, 42))
        self.assertIs(type(found), tuple)
        self.assertEqual(splittable(samples.Pair(2, 3)), [3])

    def test_no_call_takes_long(self):
        checks.check_all_quick(self, split, [(value, value[-1]) for value in other_sums()])
        checks.check_all_quick(self, splittable, [(value,) for value in other_sums()])


if __name__ == "__main__":
    unittest.main()
