"""Layout of tables, and their full text."""

from reportlayout.cells import is_number_cell
from reportlayout.lines import bytes_of, decimal_notation, fill_before, fill_behind, truncate
from reportlayout.printing import printed_cell
from reportlayout.signs import BAR, LINE_FEED, MINUS, PLUS, SPACE

# A column of width 3 takes 6 bytes of a line: a bar, two spaces and its width.
LEAST_ROOM_OF_COLUMN = 6


def visible_count(table, width):
    """Count the columns of a table that are visible in a width."""
    return min(len(table.headers), (width - 1) // LEAST_ROOM_OF_COLUMN)


def printed_row(row, count):
    """Give the printed forms of the first cells of a row."""
    return [printed_cell(cell) for cell in row[:count]]


def printed_rows(table, count):
    """Give the printed forms of the first columns: a list for the headers, then one for each row."""
    return [printed_row(row, count) for row in [table.headers] + table.rows]


def natural_width(printed, column):
    """Give the natural width of a column of printed forms."""
    return max([len(row[column]) for row in printed])


def natural_widths(printed):
    """Give the natural width of each column of printed forms."""
    return [natural_width(printed, column) for column in range(len(printed[0]))]


def narrow(natural, width):
    """Narrow columns until a table row of them is not longer than a width."""
    widths = list(natural)
    while sum(widths) + 3 * len(widths) + 1 > width:
        widest = widths.index(max(widths))
        widths[widest] = widths[widest] - 1
    return widths


def visible_widths(table, width):
    """Give the widths of the visible columns of a table."""
    return narrow(natural_widths(printed_rows(table, visible_count(table, width))), width)


def ruler_line(widths):
    """Give the ruler over columns."""
    line = []
    for width in widths:
        line.extend([PLUS] + [MINUS] * (width + 2))
    return line + [PLUS]


def aligned_form(cell, printed, width):
    """Give the printed form of a cell, truncated and filled up to a width."""
    form = truncate(printed, width)
    if is_number_cell(cell):
        return fill_before(form, width)
    return fill_behind(form, width)


def row_line(row, printed, widths):
    """Give the table row of the first cells of a row, as many as there are widths."""
    line = []
    for column, width in enumerate(widths):
        line.extend([BAR, SPACE])
        line.extend(aligned_form(row[column], printed[column], width))
        line.append(SPACE)
    return line + [BAR]


def framed_lines(table, printed, widths):
    """Give the lines of the first columns of a table, as many as there are widths."""
    ruler = ruler_line(widths)
    lines = [ruler, row_line(table.headers, printed[0], widths), ruler]
    for place, row in enumerate(table.rows):
        lines.append(row_line(row, printed[place + 1], widths))
    lines.append(ruler)
    return lines


def table_lines(table, width):
    """Lay out a table."""
    count = visible_count(table, width)
    printed = printed_rows(table, count)
    lines = framed_lines(table, printed, narrow(natural_widths(printed), width))
    hidden = len(table.headers) - count
    if hidden > 0:
        lines.append(bytes_of("(+") + decimal_notation(hidden) + bytes_of(")"))
    return lines


def full_text(table):
    """Give the full text of a table."""
    printed = printed_rows(table, len(table.headers))
    text = []
    for place, line in enumerate(framed_lines(table, printed, natural_widths(printed))):
        if place > 0:
            text.append(LINE_FEED)
        text.extend(line)
    return text
