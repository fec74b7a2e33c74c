"""The fewest parts of a fraction, and all sums of one, two or three parts."""

from oneparts.fractions import LEAST_PART, check_fraction, check_number
from oneparts.greedy import part_that_fits

GREATEST_COUNT = 3


def single_sums(upper, lower, least):
    """Return the list of the sums of upper divided by lower with one part from least on: one sum or none."""
    part = lower // upper
    return [(part,)] if part * upper == lower and part >= least else []


def sums_from(upper, lower, count, least):
    """Return the ascending list of the sums of upper divided by lower with count parts from least on."""
    if count == 1:
        return single_sums(upper, lower, least)
    # The first part is less than all of them together, but the greatest of them, so that it is more than
    # 1 / count of the whole.
    start = max(least, lower // upper + 1)
    stop = part_that_fits(upper, count * lower)
    found = []
    for part in range(start, stop):
        rests = sums_from(upper * part - lower, lower * part, count - 1, part + 1)
        found.extend([(part,) + rest for rest in rests])
    return found


def fewest(fraction):
    """Return the least number of parts of a sum of the fraction."""
    return len(first_sum(fraction))


def first_sum(fraction):
    """Return the first, in the order of tuples, of the sums with the fewest parts."""
    check_fraction(fraction)
    upper, lower = fraction
    count = 1
    found = sums_from(upper, lower, count, LEAST_PART)
    # This ends, since the greedy sum is one with at most as many parts as upper says.
    while not found:
        count += 1
        found = sums_from(upper, lower, count, LEAST_PART)
    return found[0]


def sums(fraction, count):
    """Return the ascending list of all sums with so many parts: one, two or three."""
    check_fraction(fraction)
    check_number(count, 1, GREATEST_COUNT)
    upper, lower = fraction
    return sums_from(upper, lower, count, LEAST_PART)
