"""The text of a sum, and the sum with a text."""

from oneparts.errors import ParseError
from oneparts.fractions import GREATEST_PART, MOST_PARTS, check_sum, is_bounded_sum

NO_PARTS = "0"
PART_START = "1/"
DIGITS = "0123456789"
MOST_DIGITS = 4


def format_sum(value):
    """Return the text of the sum."""
    check_sum(value, MOST_PARTS, GREATEST_PART)
    if len(value) == 0:
        return NO_PARTS
    return "+".join([f"{PART_START}{part}" for part in value])


def is_numeral(text):
    """Return whether text is an integer from 1 to 9999 as it is written, without a leading zero."""
    # Neither isdigit() nor int() will do: both know more digits than these, and int() allows signs and blanks.
    if not all([sign in DIGITS for sign in text]):
        return False
    return 1 <= len(text) <= MOST_DIGITS and text[0] != "0"


def parse_part(text):
    """Return the part with that text."""
    numeral = text[len(PART_START):]
    if not text.startswith(PART_START) or not is_numeral(numeral):
        raise ParseError("not the text of a part")
    return int(numeral)


def parse_sum(text):
    """Return the sum with that text."""
    if not isinstance(text, str):
        raise ParseError("not a text")
    if text == NO_PARTS:
        return ()
    value = tuple([parse_part(piece) for piece in text.split("+")])
    if not is_bounded_sum(value, MOST_PARTS, GREATEST_PART):
        raise ParseError("not the text of a sum")
    return value
