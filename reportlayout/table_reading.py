"""Tables read back from their full text."""

from reportlayout.cells import is_text_cell
from reportlayout.items import MOST_COLUMNS, MOST_ROWS_WITH_HEADERS, Table
from reportlayout.lines import split_at
from reportlayout.printing import read_cell
from reportlayout.ranges import is_within
from reportlayout.signs import BAR, LINE_FEED, SPACE
from reportlayout.table_layout import full_text

RULERS = 3


def strip_spaces(field):
    """Give a list of bytes without the spaces at its ends."""
    start = 0
    while start < len(field) and field[start] == SPACE:
        start = start + 1
    end = len(field)
    while end > start and field[end - 1] == SPACE:
        end = end - 1
    return field[start:end]


def read_row(line):
    """Give the cells of a table row, or None if there are none."""
    # A bar within a cell is printed as an escape, so each bar stands beside a cell.
    fields = split_at(line, BAR)[1:-1]
    if not is_within(len(fields), 1, MOST_COLUMNS):
        return None
    cells = [read_cell(strip_spaces(field)) for field in fields]
    if any([cell is None for cell in cells]):
        return None
    return cells


def read_rows(lines):
    """Give the rows of cells in the lines of a table, the headers first, or None if there are none."""
    if not is_within(len(lines), RULERS + 1, RULERS + MOST_ROWS_WITH_HEADERS):
        return None
    rows = [read_row(line) for line in [lines[1]] + lines[3:-1]]
    if any([row is None for row in rows]):
        return None
    if any([len(row) != len(rows[0]) for row in rows]):
        return None
    return rows


def read_full_text(text):
    """Give the table that has a full text, or None if there is none."""
    rows = read_rows(split_at(text, LINE_FEED))
    if rows is None or not all([is_text_cell(header) for header in rows[0]]):
        return None
    table = Table(rows[0], rows[1:])
    # Rulers, widths, spaces and quotes are right if the table that was read has the very same full text.
    if full_text(table) != text:
        return None
    return table
