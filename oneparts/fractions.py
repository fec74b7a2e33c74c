"""Fractions, sums of parts, and what a sum adds up to."""

from math import gcd

from oneparts.errors import InvalidFraction, InvalidNumber, InvalidSum

GREATEST_LOWER = 30
LEAST_PART = 2
GREATEST_PART = 9999
MOST_PARTS = 12


def is_whole(value):
    """Return whether value is an integer; True and False are none."""
    return isinstance(value, int) and not isinstance(value, bool)


def check_number(value, least, greatest):
    """Raise InvalidNumber if value is not an integer from least to greatest."""
    if not is_whole(value) or not least <= value <= greatest:
        # The message does not show the value: an object of any kind may fail to be shown.
        raise InvalidNumber(f"not an integer from {least} to {greatest}")


def is_fraction(value):
    """Return whether value is a fraction: a tuple (a, b) that stands for a divided by b."""
    if not isinstance(value, tuple) or len(value) != 2:
        return False
    upper, lower = value
    if not is_whole(upper) or not is_whole(lower):
        return False
    return 0 < upper < lower <= GREATEST_LOWER and gcd(upper, lower) == 1


def check_fraction(value):
    """Raise InvalidFraction if value is not a fraction."""
    if not is_fraction(value):
        # As above, the message does not show the value.
        raise InvalidFraction("not a fraction")


def is_sum(value):
    """Return whether value is a sum: a strictly ascending tuple of integers from 2 on."""
    if not isinstance(value, tuple):
        return False
    least = LEAST_PART
    for part in value:
        if not is_whole(part) or part < least:
            return False
        least = part + 1
    return True


def is_bounded_sum(value, most_parts, greatest_part):
    """Return whether value is a sum of at most so many parts, none of them above the greatest one."""
    if not is_sum(value) or len(value) > most_parts:
        return False
    return len(value) == 0 or value[-1] <= greatest_part


def check_sum(value, most_parts, greatest_part):
    """Raise InvalidSum if value is not a sum of at most so many parts, none of them above the greatest one."""
    if not is_bounded_sum(value, most_parts, greatest_part):
        # As above, the message does not show the value.
        raise InvalidSum(f"not a sum of at most {most_parts} parts from {LEAST_PART} to {greatest_part}")


def add_up(parts):
    """Return what the parts add up to, as a tuple (a, b) that need not be in lowest terms."""
    upper, lower = 0, 1
    for part in parts:
        upper, lower = upper * part + lower, lower * part
    return upper, lower


def lowest_terms(upper, lower):
    """Return upper divided by lower as a tuple of integers without a common divisor above 1."""
    common = gcd(upper, lower)
    return upper // common, lower // common


def total(value):
    """Return what the parts of a sum add up to, as a tuple in lowest terms."""
    check_sum(value, MOST_PARTS, GREATEST_PART)
    upper, lower = add_up(value)
    return lowest_terms(upper, lower)


def is_sum_of(fraction, value):
    """Return whether value is a sum of the fraction."""
    check_fraction(fraction)
    if not is_sum(value):
        return False
    upper, lower = add_up(value)
    return upper * fraction[1] == lower * fraction[0]
