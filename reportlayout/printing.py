"""Printed forms of cells, and cells read back from them."""

from reportlayout.cells import NUMBER, TEXT, is_number_cell
from reportlayout.lines import decimal_notation
from reportlayout.ranges import is_within
from reportlayout.signs import BACKSLASH, MINUS, NINE, QUOTE, SPACE, ZERO
from reportlayout.texts import is_text

MOST_DIGITS = 30

# The bytes that are escaped within quotes, and what stands behind the backslash for each of them:
# for a quote and a backslash they themselves, for a line feed n, for a bar p, for a tilde t.
ESCAPES = {34: 34, 92: 92, 10: 110, 124: 112, 126: 116}

# The same the other way round.
ESCAPED = {34: 34, 92: 92, 110: 10, 112: 124, 116: 126}


def digits_of(numbers):
    """Give what stands behind a minus sign, or everything if there is none."""
    if len(numbers) > 0 and numbers[0] == MINUS:
        return numbers[1:]
    return numbers


def is_decimal_notation(numbers):
    """Tell whether bytes are the decimal notation of a whole number, of whatever length."""
    digits = digits_of(numbers)
    if len(digits) == 0 or not all([is_within(byte, ZERO, NINE) for byte in digits]):
        return False
    # A zero begins nothing but 0 itself, which has no minus sign.
    return digits[0] != ZERO or len(numbers) == 1


def is_plain(text):
    """Tell whether a text is printed without quotes."""
    if len(text) == 0 or text[0] == SPACE or text[-1] == SPACE:
        return False
    if any([byte in ESCAPES for byte in text]):
        return False
    return not is_decimal_notation(text)


def printed_text(text):
    """Give the printed form of a text."""
    if is_plain(text):
        return list(text)
    printed = [QUOTE]
    for byte in text:
        if byte in ESCAPES:
            printed.append(BACKSLASH)
        printed.append(ESCAPES.get(byte, byte))
    printed.append(QUOTE)
    return printed


def printed_cell(cell):
    """Give the printed form of a cell."""
    if is_number_cell(cell):
        return decimal_notation(cell[1])
    return printed_text(cell[1])


def read_number(printed):
    """Give the number cell with a decimal notation, or None if the number is too long."""
    digits = digits_of(printed)
    if len(digits) > MOST_DIGITS:
        return None
    value = 0
    for digit in digits:
        value = 10 * value + digit - ZERO
    if printed[0] == MINUS:
        return (NUMBER, -value)
    return (NUMBER, value)


def unescape(escaped):
    """Give the bytes that stand escaped between two quotes, or None for an escape that is none."""
    text = []
    place = 0
    while place < len(escaped):
        byte = escaped[place]
        if byte == BACKSLASH:
            place = place + 1
            if place == len(escaped) or escaped[place] not in ESCAPED:
                return None
            byte = ESCAPED[escaped[place]]
        text.append(byte)
        place = place + 1
    return text


def read_text(printed):
    """Give the one text cell that may have a printed form, or None if none may have it."""
    text = printed
    if len(printed) > 0 and printed[0] == QUOTE:
        text = unescape(printed[1:-1])
    if text is None or not is_text(text):
        return None
    return (TEXT, tuple(text))


def read_cell(printed):
    """Give the one cell that may have a printed form, or None if none may have it.

    Quotes may still be missing or be there without need: who needs the exact
    printed form prints the cell and compares.
    """
    if is_decimal_notation(printed):
        return read_number(printed)
    return read_text(printed)
