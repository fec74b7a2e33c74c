"""All sums with small parts, and the least last part of a fraction."""

from oneparts.fractions import LEAST_PART, check_fraction, check_number
from oneparts.greedy import part_that_fits

GREATEST_SMALL = 16


def sums_between(upper, lower, least, most):
    """Return the ascending list of the sums of upper divided by lower with parts from least to most."""
    if upper == 0:
        return [()]
    found = []
    for part in range(max(least, part_that_fits(upper, lower)), most + 1):
        rests = sums_between(upper * part - lower, lower * part, part + 1, most)
        found.extend([(part,) + rest for rest in rests])
    return found


def small_sums(fraction, most):
    """Return the ascending list of all sums of the fraction without parts above most."""
    check_fraction(fraction)
    check_number(most, LEAST_PART, GREATEST_SMALL)
    upper, lower = fraction
    return sums_between(upper, lower, LEAST_PART, most)


def least_last(fraction):
    """Return the least integer that is the last part of a sum of the fraction, or None if it is above 16."""
    found = small_sums(fraction, GREATEST_SMALL)
    return min([parts[-1] for parts in found], default=None)
