"""Splitting a part of a sum into two parts that add up to it."""

from oneparts.errors import CannotSplit, NotThere
from oneparts.fractions import check_sum, is_whole

MOST_PARTS_TO_SPLIT = 11
GREATEST_PART_TO_SPLIT = 99


def new_parts(part):
    """Return the list of the two parts that add up to the part."""
    return [part + 1, part * (part + 1)]


def can_split(value, part):
    """Return whether the part of the sum can be split, that is, whether both new parts are new to the sum."""
    return not any([new in value for new in new_parts(part)])


def split(value, part):
    """Return the sum in which the part has been split."""
    check_sum(value, MOST_PARTS_TO_SPLIT, GREATEST_PART_TO_SPLIT)
    # Only integers are looked for: an object of another kind may say that it is equal to a part.
    if not is_whole(part) or part not in value:
        raise NotThere("not one of the parts of the sum")
    if not can_split(value, part):
        raise CannotSplit("one of the new parts is in the sum already")
    kept = [other for other in value if other != part]
    return tuple(sorted(kept + new_parts(part)))


def splittable(value):
    """Return the ascending list of the parts that can be split."""
    check_sum(value, MOST_PARTS_TO_SPLIT, GREATEST_PART_TO_SPLIT)
    return [part for part in value if can_split(value, part)]
