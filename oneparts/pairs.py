"""Which fractions are sums of two parts, and all sums of two parts."""

from oneparts.fractions import check_fraction


def has_pair(fraction):
    """Return whether the fraction is a sum of two parts."""
    check_fraction(fraction)
    upper, lower = fraction
    found = [number for number in range(1, lower + 1) if lower % number == 0]
    return any([(one + other) % upper == 0 for one in found for other in found if one < other])


def pairs(fraction):
    """Return the ascending list of all sums of two parts."""
    check_fraction(fraction)
    upper, lower = fraction
    square = lower * lower
    found = []
    # The first part grows with the divisor, so that the list ascends.
    for divisor in range(1, lower):
        if square % divisor == 0 and (lower + divisor) % upper == 0:
            found.append(((lower + divisor) // upper, (lower + square // divisor) // upper))
    return found
