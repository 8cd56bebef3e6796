"""Texts: at most 200 bytes, each of them a line feed or from 32 to 126."""

from reportlayout.ranges import is_within
from reportlayout.signs import LINE_FEED

MOST_BYTES_OF_TEXT = 200


def is_text_byte(number):
    """Tell whether a text may contain a number."""
    return number == LINE_FEED or is_within(number, 32, 126)


def is_text(numbers):
    """Tell whether a list of whole numbers is a text."""
    if len(numbers) > MOST_BYTES_OF_TEXT:
        return False
    return all([is_text_byte(number) for number in numbers])
