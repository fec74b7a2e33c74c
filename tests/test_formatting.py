"""Tests of oneparts.formatting."""

import re
import unittest
from itertools import combinations, product

from oneparts.errors import InvalidSum, ParseError
from oneparts.fractions import is_sum
from oneparts.formatting import format_sum, parse_sum
from oneparts.small import small_sums
from tests import checks, samples

TEXT = re.compile(r"1/[1-9][0-9]{0,3}(?:\+1/[1-9][0-9]{0,3}){0,11}")
# Digits of other scripts, one of which int() does not know, and signs that look like those of a text.
OTHER_SIGNS = "\u0662\u0967\uff11\u00b2\u00bd\u2044\uff0f\uff0b\u2212\u00a0\u200b"


class Text(str):
    """A text of an own class."""


def many_sums():
    """Return many sums of at most 12 parts from 2 to 9999, the one without parts among them."""
    sums = samples.sample_sums() + [(part,) for part in range(2, 10000, 13)]
    sums += [value for count in range(4) for value in combinations((2, 3, 9, 10, 99, 100, 999, 1000, 9999), count)]
    sums += [value for fraction in samples.all_fractions()[::5] for value in small_sums(fraction, 16)]
    return sums


def wanted_text(value):
    """Return the text by the words of the point."""
    text = ""
    for part in value:
        text += ("+" if text else "") + "1/" + str(part)
    return text or "0"


def wanted_sum(text):
    """Return the sum with that text, or None if there is none."""
    if text == "0":
        return ()
    if TEXT.fullmatch(text) is None:
        return None
    value = tuple(int(piece[2:]) for piece in text.split("+"))
    return value if value[0] >= 2 and list(value) == sorted(set(value)) else None


def changed_texts(text, signs):
    """Return all texts that come from the text by leaving out, putting in or replacing one sign."""
    texts = [text[:at] + text[at + 1:] for at in range(len(text))]
    texts += [text[:at] + sign + text[at:] for at in range(len(text) + 1) for sign in signs]
    return texts + [text[:at] + sign + text[at + 1:] for at in range(len(text)) for sign in signs]


def no_texts():
    """Return values of many kinds that are no texts."""
    wrong = samples.no_tuples() + samples.no_integers() + samples.sample_sums() + [(2, 6), [2, 6], 12]
    wrong += [b"0", b"1/2", b"1/2+1/6", bytearray(b"1/2"), ["1/2"], ("1/2",), {"1/2"}, {"1/2": 2}, ["1/2", "1/6"]]
    return [value for value in wrong if not isinstance(value, (str, float))]


def wrong_texts():
    """Return texts that are not those of a sum."""
    texts = ["", " ", "+", "/", "1", "2", "1/", "/2", "00", "-0", "+0", " 0", "0 ", "0\n", "0.0", "1/0", "1/1", "1/00"]
    texts += ["0+1/2", "1/2+0", "0+0", "1/1+1/2", "1/0+1/2", "1/2+1/1", "1/2+1/0", "0/2", "2/3", "2/4", "1/2+2/6"]
    texts += ["-1/2", "+1/2", "1/-2", "1/+2", "1/2+", "1/2+-1/6", "1/2-1/6", "1/2++1/6", "1/2+1/6+", "+1/2+1/6"]
    texts += [" 1/2", "1/2 ", "1 /2", "1/ 2", "1/2 +1/6", "1/2+ 1/6", "1/2 + 1/6", "1/2\n", "\t1/2", "1/2+1/6\n"]
    texts += ["1/02", "01/2", "1/2+1/06", "1/002", "1/0002", "1/00002", "1/2+01/6", "1/21/6"]
    texts += ["1/2+1/2", "1/6+1/2", "1/2+1/6+1/3", "1/3+1/2+1/6", "1/2+1/6+1/6"]
    texts += ["1/2 1/6", "1/2,1/6", "1/10000", "1/2+1/10000", "1/99999"]
    texts += ["1//2", "1/2/3", "1/2+6", "2+6", "2,6", "(2, 6)", "1/x", "1/a", "x/2", "1/2_0", "1/1_0", "1/2.0", "1/2e1"]
    texts += ["1/\u0662", "\u0661/2", "1/1\u0662", "1/\uff12", "\uff11/2", "1/\u00b2", "1/2\u00b2", "1\u20442"]
    texts += ["\u00bd", "1/0x2", "1/0b11", "None", "True", "1/True", "1/2+1/6\x00", "\ud800", "1/\ud800", "1/2" * 2]
    texts += ["1/" + "9" * 5000, "1/" + "0" * 5000 + "2", "9" * 5000 + "/2", "1/2+1/" + "9" * 5000, "+" * 5000]
    texts += [wanted_text(value) for value in samples.long_sums() if value[-1] <= 10001]
    return texts + [text.replace("1/", "1/0") for text in ("1/2", "1/2+1/6", "1/9", "1/12")]


class InterfaceTest(unittest.TestCase):
    def test_the_functions_are_defined_in_this_file(self):
        checks.check_defined(self, (format_sum, parse_sum), "oneparts.formatting")

    def test_the_arguments_have_the_names_of_the_interface(self):
        self.assertEqual(format_sum(value=(2, 6)), "1/2+1/6")
        self.assertEqual(parse_sum(text="1/2+1/6"), (2, 6))

    def test_examples(self):
        self.assertEqual(format_sum((2, 6)), "1/2+1/6")
        self.assertEqual(parse_sum("1/2+1/6"), (2, 6))


class FormatSumTest(unittest.TestCase):
    def test_many_sums_against_the_words_of_the_point(self):
        for value in many_sums():
            with self.subTest(value):
                found = format_sum(value)
                self.assertIs(type(found), str)
                self.assertEqual(found, wanted_text(value))

    def test_single_sums(self):
        for value, wanted in (
            ((), "0"), ((2,), "1/2"), ((9999,), "1/9999"), ((2, 3, 6), "1/2+1/3+1/6"), ((10, 100), "1/10+1/100"),
            ((4, 18, 468), "1/4+1/18+1/468"),
            (tuple(range(2, 14)), "1/2+1/3+1/4+1/5+1/6+1/7+1/8+1/9+1/10+1/11+1/12+1/13"),
        ):
            with self.subTest(value):
                self.assertEqual(format_sum(value), wanted)

    def test_wrong_sums(self):
        checks.check_refused(self, format_sum, samples.no_sums() + samples.long_sums(), InvalidSum)

    def test_the_sums_beside_the_limits(self):
        self.assertEqual(format_sum((9998, 9999)), "1/9998+1/9999")
        for value in ((9999, 10000), (10000,), (2, 10000), (1,), (1, 2), tuple(range(2, 15))):
            with self.subTest(value):
                with self.assertRaises(InvalidSum):
                    format_sum(value)


class ParseSumTest(unittest.TestCase):
    def test_many_sums_are_read_back(self):
        for value in many_sums():
            with self.subTest(value):
                found = parse_sum(format_sum(value))
                self.assertIs(type(found), tuple)
                self.assertEqual([type(part) for part in found], [int] * len(found))
                self.assertEqual(found, value)

    def test_every_part(self):
        for part in range(2, 10000):
            self.assertEqual(parse_sum(f"1/{part}"), (part,))

    def test_single_texts(self):
        for text, wanted in (
            ("0", ()), ("1/2", (2,)), ("1/9999", (9999,)), ("1/10+1/100", (10, 100)), ("1/9+1/10", (9, 10)),
            ("1/99+1/100+1/101", (99, 100, 101)), ("1/4+1/18+1/468", (4, 18, 468)),
        ):
            with self.subTest(text):
                self.assertEqual(parse_sum(text), wanted)

    def test_short_texts_of_few_signs(self):
        for count in range(7):
            for signs in product("012/+", repeat=count):
                text = "".join(signs)
                wanted = wanted_sum(text)
                self.assertEqual(checks.outcome(parse_sum, (text,)), ParseError if wanted is None else wanted, text)

    def test_texts_with_one_sign_changed(self):
        signs = "0123456789+-/ .,_%=*()xab\n\t\x00" + OTHER_SIGNS
        for value in ((), (2,), (12,), (2, 6), (3, 10, 9999), (98, 100, 101)):
            for text in changed_texts(format_sum(value), signs):
                with self.subTest(text):
                    wanted = wanted_sum(text)
                    self.assertEqual(checks.outcome(parse_sum, (text,)), ParseError if wanted is None else wanted)

    def test_what_is_read_is_the_sum_with_that_text(self):
        texts = [format_sum(value) for value in ((2, 6), (3, 4, 12), (2, 10, 100), (9, 99, 999, 9999))]
        for text in texts + [new for text in texts for new in changed_texts(text, "0129+/")]:
            with self.subTest(text):
                found = checks.outcome(parse_sum, (text,))
                if found is not ParseError:
                    self.assertIs(is_sum(found), True)
                    self.assertEqual(format_sum(found), text)

    def test_wrong_texts(self):
        for text in wrong_texts():
            # A long text is told by its first signs.
            with self.subTest(repr(text[:30])):
                with self.assertRaises(ParseError):
                    parse_sum(text)

    def test_values_that_are_no_texts(self):
        checks.check_refused(self, parse_sum, no_texts(), ParseError)

    def test_twelve_and_thirteen_parts(self):
        text = "+".join(f"1/{part}" for part in range(2, 14))
        self.assertEqual(parse_sum(text), tuple(range(2, 14)))
        with self.assertRaises(ParseError):
            parse_sum(text + "+1/14")

    def test_the_parts_beside_the_limits(self):
        self.assertEqual(parse_sum("1/2+1/9999"), (2, 9999))
        for text in ("1/10000", "1/2+1/10000", "1/9999+1/10000", "1/1", "1/0", "1/1+1/2"):
            with self.subTest(text):
                with self.assertRaises(ParseError):
                    parse_sum(text)

    def test_a_text_of_an_own_class_is_a_text(self):
        self.assertEqual(parse_sum(Text("1/2+1/6")), (2, 6))
        self.assertEqual(parse_sum(Text("0")), ())
        with self.assertRaises(ParseError):
            parse_sum(Text("1/6+1/2"))


class GeneralTest(unittest.TestCase):
    def sum_rows(self):
        return [(value,) for value in many_sums()]

    def text_rows(self):
        return [(format_sum(value),) for value in many_sums()]

    def test_arguments_are_not_modified(self):
        for function in (format_sum, parse_sum):
            checks.check_all_unchanged(self, function, [(value,) for value in samples.changeable_values()])
        checks.check_all_unchanged(self, format_sum, self.sum_rows())
        checks.check_all_unchanged(self, parse_sum, [(["1/2", "1/6"],), (bytearray(b"1/2"),), ({"1/2": 2},)])

    def test_equal_calls_return_equal_results(self):
        wrong = [(value,) for value in samples.no_sums() + samples.long_sums()]
        checks.check_all_repeated(self, format_sum, self.sum_rows(), wrong)
        wrong = [(value,) for value in wrong_texts() + no_texts()]
        checks.check_all_repeated(self, parse_sum, self.text_rows(), wrong)

    def test_a_tuple_of_an_own_class_gives_the_same_result(self):
        self.assertEqual(format_sum(samples.Pair(2, 6)), "1/2+1/6")

    def test_no_call_takes_long(self):
        checks.check_all_quick(self, format_sum, self.sum_rows())
        checks.check_all_quick(self, parse_sum, self.text_rows())
        checks.check_all_quick(self, parse_sum, [("+".join(f"1/{part}" for part in range(2, 10000)),)])


if __name__ == "__main__":
    unittest.main()
