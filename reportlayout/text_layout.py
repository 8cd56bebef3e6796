"""Layout of headings, paragraphs and check marks."""

from reportlayout.lines import bytes_of, cut_into_pieces, single_line, split_at, truncate
from reportlayout.signs import EQUALS_SIGN, LINE_FEED, MINUS, NUMBER_SIGN, SPACE


def heading_lines(heading, width):
    """Lay out a heading."""
    line = single_line(heading.text)
    if heading.level == 3:
        return [truncate([NUMBER_SIGN, SPACE] + line, width)]
    first = truncate(line, width)
    if heading.level == 1:
        return [first, [EQUALS_SIGN] * len(first)]
    return [first, [MINUS] * len(first)]


def check_lines(check, width):
    """Lay out a check mark."""
    mark = "[ok] " if check.passed == 1 else "[no] "
    return [truncate(bytes_of(mark) + single_line(check.text), width)]


def words_of_part(part, width):
    """Give the words of a part of a paragraph, those that are too long for a line in pieces."""
    words = []
    for word in split_at(part, SPACE):
        words.extend(cut_into_pieces(word, width))
    return words


def part_lines(part, width):
    """Lay out what stands between two line feeds of a paragraph."""
    lines = []
    for word in words_of_part(part, width):
        if len(lines) > 0 and len(lines[-1]) + 1 + len(word) <= width:
            lines[-1] = lines[-1] + [SPACE] + word
        else:
            lines.append(word)
    if len(lines) == 0:
        return [[]]
    return lines


def paragraph_lines(paragraph, width):
    """Lay out a paragraph."""
    lines = []
    for part in split_at(paragraph.text, LINE_FEED):
        lines.extend(part_lines(part, width))
    return lines
