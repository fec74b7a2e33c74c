"""The divisors of a number, and which numbers are sums of different divisors."""

from oneparts.fractions import check_number

GREATEST_NUMBER = 200
GREATEST_WANTED = 999


def divisors(number):
    """Return the ascending list of the divisors of the number."""
    check_number(number, 1, GREATEST_NUMBER)
    return [divisor for divisor in range(1, number + 1) if number % divisor == 0]


def is_full(number):
    """Return whether every integer from 1 to the number is a sum of different divisors of it."""
    reached = 0
    # The divisors so far add up to every integer from 1 to reached. With a next one of at most reached + 1 there is
    # no gap; with a greater one reached + 1 is no sum, since all later divisors are greater still.
    for divisor in divisors(number):
        if divisor > reached + 1:
            return False
        reached += divisor
    return True


def can_add_up(numbers, wanted):
    """Return whether wanted is a sum of different ones of the numbers, which are above 0."""
    if wanted < 0:
        return False
    # The bit k of this integer tells whether k is such a sum.
    reached = 1
    for number in numbers:
        reached = reached | (reached << number)
    return (reached >> wanted) % 2 == 1


def divisor_sum(number, wanted):
    """Return the first ascending tuple of different divisors that adds up to wanted, or None if there is none."""
    found = divisors(number)
    check_number(wanted, 0, GREATEST_WANTED)
    if not can_add_up(found, wanted):
        return None
    chosen = []
    missing = wanted
    # The tuple with the lesser divisor comes first, so that a divisor is taken wherever later ones make up the rest.
    for at, divisor in enumerate(found):
        if can_add_up(found[at + 1:], missing - divisor):
            chosen.append(divisor)
            missing -= divisor
    return tuple(chosen)
