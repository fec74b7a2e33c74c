"""Tests of oneparts.cutter."""

import copy
import time
import unittest
from fractions import Fraction
from itertools import permutations, product
from math import ceil
from random import Random

from oneparts.cutter import Cutter
from oneparts.errors import InvalidFraction, InvalidNumber, NothingToUndo, TooGreat, Used
from oneparts.formatting import parse_sum
from oneparts.fractions import total
from oneparts.greedy import greedy
from oneparts.small import small_sums
from tests import checks, samples

# A dozen parts that fit in any fraction.
DOZEN = list(range(9000, 9012))


class LikeACutter:
    """An object that is no cutter, but has the methods of one."""

    def __init__(self, fraction):
        self.fraction = fraction

    def left(self):
        return self.fraction

    def parts(self):
        return []

    def __len__(self):
        return 0

    def __str__(self):
        return "0"


class Model:
    """A plain model of a cutter: the fraction, a list of parts, and how many of them are there to stay."""

    def __init__(self, fraction):
        self.whole = Fraction(*fraction)
        self.rows = []
        self.fixed = 0

    def left(self):
        return self.whole - sum((Fraction(1, part) for part in self.rows), Fraction(0))

    def pair(self):
        return self.left().numerator, self.left().denominator

    def cut(self, part):
        if type(part) is not int or not 2 <= part <= 9999:
            return InvalidNumber
        if part in self.rows:
            return Used
        if Fraction(1, part) > self.left() or len(self.rows) >= 12:
            return TooGreat
        self.rows.append(part)
        return self.pair()

    def next_part(self):
        if self.left() == 0:
            return None
        part = max(2, ceil(1 / self.left()))
        while part in self.rows:
            part += 1
        return part

    def undo(self):
        if len(self.rows) <= self.fixed:
            return NothingToUndo
        del self.rows[-1]
        return self.pair()

    def duplicate(self):
        found = copy.deepcopy(self)
        found.fixed = len(self.rows)
        return found

    def text(self):
        return "+".join(f"1/{part}" for part in sorted(self.rows)) or "0"


def state(cutter):
    """Return all that a cutter tells of itself."""
    return cutter.left(), cutter.parts(), cutter.next_part(), len(cutter), str(cutter)


def model_state(model):
    """Return all that the cutter of the model is to tell of itself."""
    return model.pair(), model.rows, model.next_part(), len(model.rows), model.text()


def cutter_with(fraction, parts):
    """Return a cutter of the fraction from which the parts were cut off in this order."""
    cutter = Cutter(fraction)
    for part in parts:
        cutter.cut(part)
    return cutter


def undo_all(cutter):
    """Put back as many parts as possible and return their number."""
    count = 0
    while checks.outcome(cutter.undo, ()) is not NothingToUndo:
        count += 1
    return count


class InterfaceTest(unittest.TestCase):
    def test_the_class_is_defined_in_this_file(self):
        checks.check_defined(self, (Cutter,), "oneparts.cutter")

    def test_the_methods_are_defined_in_the_class_itself(self):
        names = ["cut", "left", "parts", "next_part", "undo", "duplicate", "__len__", "__str__", "__eq__"]
        for name in names:
            with self.subTest(name):
                self.assertIn(name, vars(Cutter))

    def test_the_arguments_have_the_names_of_the_interface(self):
        cutter = Cutter(fraction=(2, 3))
        self.assertEqual(cutter.cut(part=2), (1, 6))

    def test_examples(self):
        c = Cutter((2, 3))
        self.assertEqual(c.cut(2), (1, 6))
        self.assertEqual(str(c), "1/2")
        self.assertEqual(c.left(), (1, 6))
        self.assertEqual(c.parts(), [2])
        self.assertEqual(c.next_part(), 6)
        self.assertEqual(c.undo(), (2, 3))


class NewCutterTest(unittest.TestCase):
    def test_every_fraction(self):
        for fraction in samples.all_fractions():
            with self.subTest(fraction):
                cutter = Cutter(fraction)
                self.assertEqual(state(cutter), model_state(Model(fraction)))
                self.assertEqual(cutter.left(), fraction)
                self.assertEqual(cutter.parts(), [])
                self.assertEqual(len(cutter), 0)
                self.assertEqual(str(cutter), "0")
                self.assertRaises(NothingToUndo, cutter.undo)

    def test_wrong_fractions(self):
        checks.check_refused(self, Cutter, samples.wrong_fractions(), InvalidFraction)

    def test_the_fractions_beside_the_limits(self):
        for fraction in ((1, 31), (30, 31), (0, 1), (1, 1), (2, 4), (-1, 2), (True, 2), [2, 3], None, "2/3"):
            with self.subTest(fraction):
                with self.assertRaises(InvalidFraction):
                    Cutter(fraction)

    def test_a_tuple_of_an_own_class(self):
        cutter = Cutter(samples.Pair(2, 3))
        self.assertEqual(cutter, Cutter((2, 3)))
        self.assertIs(type(cutter.left()), tuple)


class CutTest(unittest.TestCase):
    def test_every_fraction_and_many_parts(self):
        for fraction in samples.all_fractions():
            for part in [*range(2, 62), 900, 9999]:
                with self.subTest(fraction, part=part):
                    cutter, model = Cutter(fraction), Model(fraction)
                    self.assertEqual(checks.outcome(cutter.cut, (part,)), model.cut(part))
                    self.assertEqual(state(cutter), model_state(model))

    def test_small_sums_in_every_order(self):
        for fraction in samples.all_fractions()[::7]:
            for value in small_sums(fraction, 16)[:3]:
                for parts in list(permutations(value))[:24]:
                    with self.subTest(fraction, parts=parts):
                        cutter, model = Cutter(fraction), Model(fraction)
                        for part in parts:
                            self.assertEqual(cutter.cut(part), model.cut(part))
                            self.assertEqual(state(cutter), model_state(model))
                        self.assertEqual(cutter.left(), (0, 1))
                        self.assertEqual(cutter.parts(), list(parts))

    def test_what_is_left_is_a_tuple_of_integers_in_lowest_terms(self):
        cutter = Cutter((5, 6))
        for part, left in ((3, (1, 2)), (4, (1, 4)), (6, (1, 12)), (12, (0, 1))):
            with self.subTest(part):
                found = cutter.cut(part)
                self.assertIs(type(found), tuple)
                self.assertEqual([type(number) for number in found], [int, int])
                self.assertEqual(found, left)

    def test_a_part_that_is_exactly_what_is_left(self):
        for part in range(2, 31):
            with self.subTest(part):
                self.assertEqual(Cutter((1, part)).cut(part), (0, 1))

    def test_a_part_that_is_greater_than_what_is_left(self):
        for fraction, parts, part in (
            ((1, 3), [], 2), ((1, 30), [], 29), ((2, 3), [2], 5), ((2, 3), [2, 7], 41), ((1, 2), [2], 9999),
            ((2, 3), [2, 6], 9999), ((1, 2), [2], 3),
        ):
            with self.subTest(fraction, parts=parts, part=part):
                cutter = cutter_with(fraction, parts)
                before = state(cutter)
                with self.assertRaises(TooGreat):
                    cutter.cut(part)
                self.assertEqual(state(cutter), before)

    def test_a_part_that_was_cut_off_already(self):
        for fraction, parts in (
            ((1, 2), [2]), ((2, 3), [2, 6]), ((2, 3), [2]), ((29, 30), [2, 5, 6]), ((1, 2), [9999]),
        ):
            for part in parts:
                with self.subTest(fraction, parts=parts, part=part):
                    cutter = cutter_with(fraction, parts)
                    before = state(cutter)
                    with self.assertRaises(Used):
                        cutter.cut(part)
                    self.assertEqual(state(cutter), before)

    def test_a_part_that_was_put_back_can_be_cut_off_again(self):
        cutter = cutter_with((2, 3), [2, 6])
        cutter.undo()
        self.assertEqual(cutter.cut(6), (0, 1))
        self.assertEqual(cutter.parts(), [2, 6])

    def test_wrong_parts(self):
        for parts in ([], [2], [2, 6]):
            cutter = cutter_with((2, 3), parts)
            before = state(cutter)
            checks.check_refused(self, cutter.cut, samples.wrong_numbers(2, 9999), InvalidNumber)
            self.assertEqual(state(cutter), before)

    def test_the_parts_beside_the_limits(self):
        self.assertEqual(Cutter((2, 3)).cut(2), (1, 6))
        self.assertEqual(Cutter((1, 2)).cut(9999), (9997, 19998))
        for part in (1, 0, -1, -2, 10000, True, False, None, "2", "", [2], (2,), b"2", {2}, 2 + 0j):
            with self.subTest(part):
                cutter = Cutter((2, 3))
                with self.assertRaises(InvalidNumber):
                    cutter.cut(part)
                self.assertEqual(state(cutter), state(Cutter((2, 3))))

    def test_the_thirteenth_part(self):
        cutter = Cutter((29, 30))
        for at, part in enumerate(DOZEN):
            cutter.cut(part)
            self.assertEqual(len(cutter), at + 1)
        before = state(cutter)
        for part in (2, 3, 8999, 9012, 9999):
            with self.subTest(part):
                with self.assertRaises(TooGreat):
                    cutter.cut(part)
                self.assertEqual(state(cutter), before)
        self.assertEqual(cutter.next_part(), 2)
        cutter.undo()
        self.assertEqual(cutter.cut(2), cutter_with((29, 30), [2] + DOZEN[:-1]).left())
        self.assertEqual(cutter.parts(), DOZEN[:-1] + [2])

    def test_a_thirteenth_part_in_a_duplicate(self):
        cutter = cutter_with((29, 30), DOZEN).duplicate()
        self.assertRaises(TooGreat, cutter.cut, 9999)
        cutter = cutter_with((29, 30), DOZEN[:-1]).duplicate()
        cutter.cut(9999)
        self.assertRaises(TooGreat, cutter.cut, 9998)

    def test_the_order_of_the_errors(self):
        full = cutter_with((29, 30), DOZEN)
        empty = cutter_with((1, 2), [2])
        for cutter, part, error in (
            (full, 1, InvalidNumber), (full, 10000, InvalidNumber), (full, True, InvalidNumber),
            (full, None, InvalidNumber), (full, 9000, Used), (full, 9011, Used), (full, 2, TooGreat),
            (empty, 1, InvalidNumber), (empty, 10000, InvalidNumber), (empty, 2, Used), (empty, 3, TooGreat),
        ):
            with self.subTest(part, parts=cutter.parts()):
                before = state(cutter)
                with self.assertRaises(error):
                    cutter.cut(part)
                self.assertEqual(state(cutter), before)


class LeftAndPartsTest(unittest.TestCase):
    def test_left_changes_nothing(self):
        cutter = cutter_with((29, 30), [5, 2])
        for _ in range(3):
            self.assertEqual(cutter.left(), (4, 15))
            self.assertEqual(cutter.parts(), [5, 2])

    def test_left_is_0_and_1_where_nothing_is_left(self):
        cutter = cutter_with((2, 3), [6, 2])
        self.assertEqual(cutter.left(), (0, 1))
        self.assertIs(type(cutter.left()), tuple)

    def test_parts_stand_in_the_order_in_which_they_were_cut_off(self):
        for parts in permutations((3, 4, 12)):
            with self.subTest(parts):
                self.assertEqual(cutter_with((2, 3), parts).parts(), list(parts))

    def test_a_returned_list_is_a_new_one(self):
        cutter = cutter_with((2, 3), [3, 4])
        before = state(cutter)
        found = cutter.parts()
        self.assertIs(type(found), list)
        self.assertIsNot(found, cutter.parts())
        for change in (lambda rows: rows.append(5), lambda rows: rows.clear(), lambda rows: rows.reverse()):
            change(cutter.parts())
            change(found)
            self.assertEqual(state(cutter), before)
        self.assertEqual(cutter, cutter_with((2, 3), [3, 4]))
        self.assertEqual(cutter.cut(12), (0, 1))
        self.assertEqual(cutter.undo(), (1, 12))

    def test_a_list_that_was_returned_before_does_not_follow_the_cutter(self):
        cutter = cutter_with((2, 3), [3])
        found = cutter.parts()
        cutter.cut(4)
        self.assertEqual(found, [3])
        cutter.undo()
        cutter.undo()
        self.assertEqual(found, [3])


class NextPartTest(unittest.TestCase):
    def test_every_fraction_from_2_on(self):
        for fraction in samples.all_fractions():
            for parts in ([], [30], [31], [33, 34, 35]):
                with self.subTest(fraction, parts=parts):
                    cutter = Cutter(fraction)
                    for part in parts:
                        checks.outcome(cutter.cut, (part,))
                    upper, lower = cutter.left()
                    wanted = None
                    if upper > 0:
                        wanted = 2
                        while wanted in cutter.parts() or upper * wanted < lower:
                            wanted += 1
                    self.assertEqual(cutter.next_part(), wanted)

    def test_it_follows_the_greedy_sum(self):
        for fraction in samples.all_fractions():
            with self.subTest(fraction):
                cutter = Cutter(fraction)
                for part in greedy(fraction):
                    self.assertEqual(cutter.next_part(), part)
                    if part > 9999:
                        break
                    cutter.cut(part)
                else:
                    self.assertIsNone(cutter.next_part())

    def test_parts_that_were_cut_off_already_are_passed_over(self):
        for fraction, parts, wanted in (
            ((2, 3), [3], 4), ((2, 3), [3, 4], 12), ((29, 30), [], 2), ((29, 30), [2], 3), ((29, 30), [3], 2),
            ((29, 30), [3, 4], 5), ((28, 29), [3, 4, 5], 6), ((28, 29), [4, 5, 6], 3), ((28, 29), [5, 6, 7, 8], 4),
            ((1, 2), [4, 5], 20), ((1, 2), [6], 3), ((1, 2), [9999], 3), ((2, 3), [4, 3], 12),
            ((1, 6), [12], 13), ((1, 6), [12, 13], 156), ((1, 10), [20, 21], 420), ((3, 10), [10], 5),
            ((3, 10), [10, 11], 12),
        ):
            with self.subTest(fraction, parts=parts):
                self.assertEqual(cutter_with(fraction, parts).next_part(), wanted)

    def test_a_part_above_9999_and_a_thirteenth_part(self):
        cutter = cutter_with((8, 11), [2, 5, 37])
        self.assertEqual(cutter.next_part(), 4070)
        cutter = cutter_with((1, 2), [3, 7, 43, 1807])
        self.assertEqual(cutter.next_part(), 1806 * 1807)
        self.assertEqual(cutter_with((29, 30), DOZEN).next_part(), 2)

    def test_none_where_nothing_is_left(self):
        for fraction, parts in (((1, 2), [2]), ((2, 3), [2, 6]), ((2, 3), [12, 4, 3]), ((1, 30), [30])):
            with self.subTest(fraction):
                self.assertIsNone(cutter_with(fraction, parts).next_part())

    def test_it_changes_nothing(self):
        cutter = cutter_with((2, 3), [3])
        self.assertEqual([cutter.next_part() for _ in range(3)], [4, 4, 4])
        self.assertEqual(cutter.parts(), [3])


class UndoTest(unittest.TestCase):
    def test_back_to_the_beginning(self):
        for fraction in samples.all_fractions()[::3]:
            for parts in small_sums(fraction, 16)[-2:]:
                with self.subTest(fraction, parts=parts):
                    cutter = cutter_with(fraction, parts)
                    for count in range(len(parts) - 1, -1, -1):
                        wanted = cutter_with(fraction, parts[:count])
                        self.assertEqual(cutter.undo(), wanted.left())
                        self.assertEqual(state(cutter), state(wanted))
                    for _ in range(2):
                        with self.assertRaises(NothingToUndo):
                            cutter.undo()
                        self.assertEqual(state(cutter), state(Cutter(fraction)))

    def test_the_part_that_was_cut_off_last_is_put_back_and_not_the_greatest_number(self):
        cutter = cutter_with((2, 3), [12, 3, 4])
        self.assertEqual(cutter.undo(), (1, 4))
        self.assertEqual(cutter.parts(), [12, 3])
        self.assertEqual(cutter.undo(), (7, 12))
        self.assertEqual(cutter.undo(), (2, 3))

    def test_twelve_parts_are_put_back(self):
        self.assertEqual(undo_all(cutter_with((29, 30), DOZEN)), 12)

    def test_errors_are_nothing_to_put_back(self):
        cutter = cutter_with((2, 3), [2])
        for part in (2, 3, 1, None, 10000):
            checks.outcome(cutter.cut, (part,))
        self.assertEqual(undo_all(cutter), 1)
        self.assertEqual(cutter.left(), (2, 3))


class DuplicateTest(unittest.TestCase):
    def test_a_duplicate_is_equal_and_another_object(self):
        for fraction, parts in (((2, 3), []), ((2, 3), [2]), ((2, 3), [12, 3, 4]), ((29, 30), DOZEN)):
            with self.subTest(fraction, parts=parts):
                cutter = cutter_with(fraction, parts)
                found = cutter.duplicate()
                self.assertIs(type(found), Cutter)
                self.assertIsNot(found, cutter)
                self.assertEqual(found, cutter)
                self.assertEqual(state(found), state(cutter))

    def test_a_duplicate_goes_by_itself(self):
        cutter = cutter_with((2, 3), [3])
        found = cutter.duplicate()
        found.cut(4)
        self.assertEqual((cutter.parts(), found.parts()), ([3], [3, 4]))
        cutter.cut(5)
        self.assertEqual((cutter.parts(), found.parts()), ([3, 5], [3, 4]))
        self.assertNotEqual(cutter, found)
        found.undo()
        self.assertEqual((cutter.parts(), found.parts()), ([3, 5], [3]))
        cutter.undo()
        cutter.undo()
        self.assertEqual((cutter.left(), found.left()), ((2, 3), (1, 3)))

    def test_what_was_cut_off_before_cannot_be_put_back(self):
        cutter = cutter_with((29, 30), [3, 4])
        found = cutter.duplicate()
        for _ in range(2):
            with self.assertRaises(NothingToUndo):
                found.undo()
            self.assertEqual(state(found), state(cutter))
        found.cut(5)
        found.cut(6)
        self.assertEqual(undo_all(found), 2)
        self.assertEqual(found.parts(), [3, 4])
        self.assertEqual(undo_all(cutter), 2)
        self.assertEqual(cutter.parts(), [])

    def test_the_original_can_put_back_what_was_cut_off_before(self):
        cutter = cutter_with((2, 3), [3, 4])
        cutter.duplicate()
        cutter.cut(12)
        self.assertEqual(undo_all(cutter), 3)

    def test_a_duplicate_of_a_duplicate(self):
        first = cutter_with((29, 30), [3]).duplicate()
        first.cut(4)
        second = first.duplicate()
        second.cut(5)
        self.assertEqual([undo_all(second), undo_all(first)], [1, 1])
        self.assertEqual([second.parts(), first.parts()], [[3, 4], [3]])
        self.assertRaises(NothingToUndo, first.duplicate().undo)

    def test_a_part_of_a_duplicate_is_used(self):
        found = cutter_with((2, 3), [3, 4]).duplicate()
        self.assertRaises(Used, found.cut, 3)
        self.assertEqual(found.cut(12), (0, 1))

    def test_a_duplicate_of_a_new_cutter(self):
        found = Cutter((2, 3)).duplicate()
        self.assertRaises(NothingToUndo, found.undo)
        self.assertEqual(found.cut(2), (1, 6))
        self.assertEqual(found.undo(), (2, 3))


class EqualityTest(unittest.TestCase):
    def test_the_order_of_the_parts_does_not_matter(self):
        for one in permutations((3, 4, 12)):
            for other in permutations((3, 4, 12)):
                with self.subTest(one, other=other):
                    self.assertIs(cutter_with((2, 3), one) == cutter_with((2, 3), other), True)
                    self.assertIs(cutter_with((2, 3), one) != cutter_with((2, 3), other), False)

    def test_all_pairs_of_some_cutters(self):
        keys = [
            (fraction, parts) for fraction in ((2, 3), (5, 6), (1, 2), (29, 30))
            for parts in ((), (6,), (3,), (3, 6), (6, 3), (4,), (4, 6), (12,), (2,), (4, 5, 6), (6, 5, 4))
        ]
        rows = []
        for fraction, parts in keys:
            model = Model(fraction)
            for part in parts:
                model.cut(part)
            if model.rows == list(parts):
                rows.append((fraction, parts))
        self.assertGreater(len(rows), 30)
        for one in rows:
            for other in rows:
                with self.subTest(one, other=other):
                    wanted = one[0] == other[0] and set(one[1]) == set(other[1])
                    self.assertIs(cutter_with(*one) == cutter_with(*other), wanted)
                    self.assertIs(cutter_with(*one) != cutter_with(*other), not wanted)

    def test_the_same_left_does_not_make_them_equal(self):
        self.assertNotEqual(cutter_with((5, 6), [2]), Cutter((1, 3)))
        self.assertNotEqual(cutter_with((2, 3), [2, 6]), cutter_with((2, 3), [3, 4, 12]))
        self.assertNotEqual(cutter_with((1, 2), [2]), cutter_with((1, 3), [3]))

    def test_the_same_parts_do_not_make_them_equal(self):
        self.assertNotEqual(cutter_with((2, 3), [6]), cutter_with((5, 6), [6]))
        self.assertNotEqual(Cutter((1, 2)), Cutter((1, 3)))
        self.assertNotEqual(Cutter((1, 3)), Cutter((2, 3)))

    def test_what_can_be_put_back_does_not_matter(self):
        cutter = cutter_with((2, 3), [4, 3])
        self.assertEqual(cutter.duplicate(), cutter)
        self.assertEqual(cutter, cutter.duplicate().duplicate())
        self.assertEqual(cutter_with((2, 3), [3]).duplicate(), cutter_with((2, 3), [3]))

    def test_putting_back_makes_them_equal_again(self):
        one, other = cutter_with((2, 3), [3]), cutter_with((2, 3), [3, 4])
        self.assertNotEqual(one, other)
        other.undo()
        self.assertEqual(one, other)

    def test_a_cutter_is_not_equal_to_objects_of_other_kinds(self):
        others = samples.no_tuples() + samples.no_integers()
        others += ["0", "1/2", (2, 3), [2], (), Cutter, LikeACutter((2, 3))]
        for cutter in (Cutter((2, 3)), cutter_with((2, 3), [2])):
            for at, other in enumerate(others):
                with self.subTest(at):
                    self.assertIs(cutter == other, False)
                    self.assertIs(cutter != other, True)

    def test_comparing_changes_nothing(self):
        one, other = cutter_with((2, 3), [12, 3, 4]), cutter_with((2, 3), [4, 12, 3])
        before = state(one), state(other)
        self.assertEqual(one, other)
        self.assertEqual((state(one), state(other)), before)


class TextTest(unittest.TestCase):
    def test_the_text_of_the_sum_of_the_parts(self):
        for parts in permutations((12, 3, 4)):
            for count, wanted in ((3, "1/3+1/4+1/12"), (0, "0")):
                with self.subTest(parts, count=count):
                    cutter = cutter_with((2, 3), parts[:count])
                    self.assertEqual(str(cutter), wanted)
                    self.assertEqual(f"{cutter}", wanted)
        self.assertEqual(str(cutter_with((29, 30), [100, 9, 10])), "1/9+1/10+1/100")
        self.assertEqual(str(cutter_with((29, 30), DOZEN[::-1])), "+".join(f"1/{part}" for part in DOZEN))

    def test_the_text_can_be_read_back(self):
        for parts in ([], [2], [6, 2], [9999, 3], DOZEN):
            with self.subTest(parts):
                cutter = cutter_with((29, 30), parts)
                self.assertEqual(parse_sum(str(cutter)), tuple(sorted(parts)))

    def test_the_parts_and_what_is_left_add_up_to_the_fraction(self):
        for fraction in samples.all_fractions()[::5]:
            cutter = cutter_with(fraction, [60, 40, 300])
            with self.subTest(fraction):
                cut = Fraction(*total(parse_sum(str(cutter))))
                self.assertEqual(cut + Fraction(*cutter.left()), Fraction(*fraction))

    def test_it_changes_nothing(self):
        cutter = cutter_with((2, 3), [12, 3, 4])
        self.assertEqual([str(cutter), str(cutter)], ["1/3+1/4+1/12"] * 2)
        self.assertEqual(cutter.parts(), [12, 3, 4])


class ModelTest(unittest.TestCase):
    """Cutters against a plain model, call by call."""

    def check_calls(self, fraction, calls):
        """Check the calls on cutters, of which duplicate makes another one, the last one being used."""
        pairs = [(Cutter(fraction), Model(fraction))]
        for name, *row in calls:
            cutter, model = pairs[-1]
            if name == "duplicate":
                pairs.append((cutter.duplicate(), model.duplicate()))
            elif name == "turn":
                pairs.insert(0, pairs.pop())
            else:
                self.assertEqual(checks.outcome(getattr(cutter, name), row), getattr(model, name)(*row))
            for cutter, model in pairs:
                self.assertEqual(state(cutter), model_state(model))
        for one, model in pairs:
            for other, other_model in pairs:
                self.assertIs(one == other, sorted(model.rows) == sorted(other_model.rows))

    def test_all_short_rows_of_calls(self):
        calls = [("cut", 2), ("cut", 3), ("cut", 6), ("cut", 12), ("undo",), ("duplicate",), ("turn",)]
        for fraction in ((2, 3), (1, 2)):
            for row in product(calls, repeat=4):
                with self.subTest(fraction, row=row):
                    self.check_calls(fraction, row)

    def test_long_rows_of_calls(self):
        draw = Random(1)
        fractions = samples.all_fractions()
        numbers = [*range(2, 40), 60, 77, 120, 9998, 9999, 1, 0, 10000, True, None, "2", (2,)]
        for _ in range(60):
            fraction = draw.choice(fractions)
            calls = [("cut", draw.choice(numbers)) for _ in range(30)]
            calls += [("undo",)] * 14 + [("duplicate",), ("turn",)] * 3
            draw.shuffle(calls)
            with self.subTest(fraction, calls=calls):
                self.check_calls(fraction, calls)

    def test_rows_of_calls_that_reach_the_thirteenth_part(self):
        draw = Random(2)
        numbers = [*range(50, 70), *range(9990, 10001)]
        for _ in range(20):
            fraction = draw.choice([(5, 6), (28, 29), (29, 30)])
            calls = [("cut", draw.choice(numbers)) for _ in range(60)] + [("undo",)] * 5 + [("duplicate",)]
            draw.shuffle(calls)
            with self.subTest(fraction, calls=calls):
                self.check_calls(fraction, calls)


class GeneralTest(unittest.TestCase):
    def test_arguments_are_not_modified(self):
        checks.check_all_unchanged(self, Cutter, [(value,) for value in samples.changeable_values()])
        checks.check_all_unchanged(self, Cutter, [(fraction,) for fraction in samples.all_fractions()])
        cutter = Cutter((2, 3))
        checks.check_all_unchanged(self, cutter.cut, [(value,) for value in samples.changeable_values()])

    def test_equal_calls_return_equal_results(self):
        for fraction in samples.all_fractions():
            with self.subTest(fraction):
                one, other = Cutter(fraction), Cutter(fraction)
                first = [checks.outcome(one.cut, (part,)) for part in (30, 4, 31, 5, 30, 0, 9999)]
                second = [checks.outcome(other.cut, (part,)) for part in (30, 4, 31, 5, 30, 0, 9999)]
                self.assertEqual(first, second)
                self.assertEqual(state(one), state(other))

    def test_cutters_do_not_share_their_parts(self):
        one, other = Cutter((2, 3)), Cutter((2, 3))
        one.cut(2)
        self.assertEqual(other.parts(), [])
        self.assertEqual(other.cut(3), (1, 3))
        self.assertEqual(one.parts(), [2])

    def test_no_call_takes_long(self):
        cutter = cutter_with((29, 30), [9999 - at for at in range(12)])
        calls = (cutter.left, cutter.parts, cutter.next_part, cutter.duplicate, cutter.undo, lambda: cutter.cut(2))
        for at, call in enumerate(calls + (lambda: str(cutter), lambda: cutter == cutter.duplicate())):
            with self.subTest(at):
                before = time.process_time()
                call()
                self.assertLess(time.process_time() - before, 1)


if __name__ == "__main__":
    unittest.main()
