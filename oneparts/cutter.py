"""A cutter: a fraction from which parts are cut off, and put back."""

from oneparts.errors import NothingToUndo, TooGreat, Used
from oneparts.formatting import format_sum
from oneparts.fractions import GREATEST_PART, LEAST_PART, MOST_PARTS
from oneparts.fractions import add_up, check_fraction, check_number, lowest_terms
from oneparts.greedy import part_that_fits


class Cutter:
    """A fraction and the different parts that were cut off, in this order."""

    def __init__(self, fraction):
        check_fraction(fraction)
        upper, lower = fraction
        self._upper = upper
        self._lower = lower
        self._parts = []
        # So many parts at the beginning of the list cannot be put back.
        self._fixed = 0

    def __len__(self):
        return len(self._parts)

    def __str__(self):
        return str(format_sum(tuple(sorted(self._parts))))

    def __eq__(self, other):
        if not isinstance(other, Cutter):
            return False
        if self._upper != other._upper or self._lower != other._lower:
            return False
        return sorted(self._parts) == sorted(other._parts)

    def cut(self, part):
        """Cut the part off and return what is left."""
        check_number(part, LEAST_PART, GREATEST_PART)
        if part in self._parts:
            raise Used("this part was cut off already")
        upper, lower = self.left()
        if upper * part < lower:
            raise TooGreat("this part is greater than what is left")
        if len(self._parts) == MOST_PARTS:
            raise TooGreat(f"there are {MOST_PARTS} parts already")
        self._parts.append(part)
        return self.left()

    def left(self):
        """Return what is left, as a tuple in lowest terms."""
        upper, lower = add_up(self._parts)
        return lowest_terms(self._upper * lower - upper * self._lower, self._lower * lower)

    def parts(self):
        """Return the list of the parts in the order in which they were cut off."""
        return list(self._parts)

    def next_part(self):
        """Return the least integer not cut off already whose part fits in what is left, or None if nothing is left."""
        upper, lower = self.left()
        if upper == 0:
            return None
        part = part_that_fits(upper, lower)
        while part in self._parts:
            part += 1
        return part

    def undo(self):
        """Put the last part back and return what is left afterwards."""
        if len(self._parts) == self._fixed:
            raise NothingToUndo("there is no part that can be put back")
        self._parts.pop()
        return self.left()

    def duplicate(self):
        """Return a cutter with the same fraction and parts that cannot put these parts back."""
        twin = Cutter((self._upper, self._lower))
        twin._parts = list(self._parts)
        twin._fixed = len(self._parts)
        return twin
