"""Lines, which are lists of bytes, and what they are made of."""

from reportlayout.signs import LINE_FEED, SPACE, TILDE


def bytes_of(words):
    """Give the bytes of a text that the program writes itself."""
    return [ord(sign) for sign in words]


def decimal_notation(number):
    """Give the bytes of a whole number in decimal notation."""
    return bytes_of(str(number))


def truncate(line, width):
    """Truncate a list of bytes to a width."""
    if len(line) <= width:
        return line
    return line[:width - 1] + [TILDE]


def single_line(text):
    """Give a text as a single line."""
    return [SPACE if byte == LINE_FEED else byte for byte in text]


def fill_before(line, width):
    """Fill a list of bytes up to a width with spaces before it."""
    return [SPACE] * (width - len(line)) + line


def fill_behind(line, width):
    """Fill a list of bytes up to a width with spaces behind it."""
    return line + [SPACE] * (width - len(line))


def split_at(numbers, separator):
    """Split a list at each place of a separator; there is one part more than there are such places."""
    parts = [[]]
    for number in numbers:
        if number == separator:
            parts.append([])
        else:
            parts[-1].append(number)
    return parts


def cut_into_pieces(whole, length):
    """Cut a list into lists of a length, of which the last one may be shorter."""
    return [whole[start:start + length] for start in range(0, len(whole), length)]
