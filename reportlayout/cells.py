"""Cells of tables and bar charts.

A cell is the tuple (NUMBER, value) or the tuple (TEXT, bytes), whose bytes are
a tuple too. So the order that Python gives to these tuples is the order of
cells: the first place puts numbers before texts, and only cells of the same
kind are compared by their second place, a proper prefix of a text first.
"""

from reportlayout.texts import MOST_BYTES_OF_TEXT, is_text
from reportlayout.ranges import is_within

NUMBER = 0
TEXT = 1


def is_number_cell(cell):
    """Tell whether a cell is a number."""
    return cell[0] == NUMBER


def is_text_cell(cell):
    """Tell whether a cell is a text."""
    return cell[0] == TEXT


def encoded_length(cell):
    """Count the whole numbers that encode a cell."""
    if is_text_cell(cell):
        return 2 + len(cell[1])
    return 2


def decode_text_cell(numbers, place):
    """Give the text cell whose length stands at a place, or None if there is none."""
    length = numbers[place]
    if not is_within(length, 0, MOST_BYTES_OF_TEXT):
        return None
    start = place + 1
    end = start + length
    if end > len(numbers):
        return None
    text = numbers[start:end]
    if not is_text(text):
        return None
    return (TEXT, tuple(text))


def decode_cell(numbers, place):
    """Give the cell that is encoded from a place on, or None if there is none."""
    if place + 1 >= len(numbers):
        return None
    if numbers[place] == NUMBER:
        return (NUMBER, numbers[place + 1])
    if numbers[place] == TEXT:
        return decode_text_cell(numbers, place + 1)
    return None


def decode_cells(numbers):
    """Give the list of the encoded cells, or None if the numbers don't consist of such."""
    cells = []
    place = 0
    while place < len(numbers):
        cell = decode_cell(numbers, place)
        if cell is None:
            return None
        cells.append(cell)
        place = place + encoded_length(cell)
    return cells


def encode_cell(cell):
    """Give the whole numbers that encode a cell."""
    if is_text_cell(cell):
        return [TEXT, len(cell[1])] + list(cell[1])
    return [NUMBER, cell[1]]
