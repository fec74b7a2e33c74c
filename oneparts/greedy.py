"""The greatest part that fits in a fraction, and the greedy sum."""

from oneparts.fractions import check_fraction, lowest_terms


def part_that_fits(upper, lower):
    """Return the least n such that 1 divided by n is at most upper divided by lower."""
    return (lower + upper - 1) // upper


def greatest(fraction):
    """Return the greatest part that fits in the fraction."""
    check_fraction(fraction)
    upper, lower = fraction
    return part_that_fits(upper, lower)


def greedy(fraction):
    """Return the sum that takes the greatest part that fits until nothing is left."""
    check_fraction(fraction)
    upper, lower = fraction
    parts = []
    while upper > 0:
        part = part_that_fits(upper, lower)
        parts.append(part)
        upper, lower = lowest_terms(upper * part - lower, lower * part)
    return tuple(parts)
