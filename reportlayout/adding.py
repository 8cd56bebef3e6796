"""The calls that add an item to the list of items.

Each answers a list: the index of the new item, or an error code alone.
"""

from reportlayout.cells import decode_cells, is_number_cell, is_text_cell
from reportlayout.errors import BAD_CELL_COUNT, BAD_CELLS, BAD_COLUMN_COUNT, BAD_COORDINATE_COUNT
from reportlayout.errors import BAD_LEVEL, BAD_PLOT_HEIGHT, NOT_A_FULL_TEXT, NOT_A_TEXT, NOT_ZERO_OR_ONE
from reportlayout.errors import OUT_OF_RANGE, TOO_MANY_ITEMS
from reportlayout.items import MOST_COLUMNS, MOST_ROWS_WITH_HEADERS
from reportlayout.items import BarChart, Check, Heading, Paragraph, Plot, Table
from reportlayout.lines import cut_into_pieces
from reportlayout.ranges import is_within
from reportlayout.table_reading import read_full_text
from reportlayout.texts import is_text

MOST_ITEMS = 12
MOST_COORDINATES = 120
MOST_CELLS_OF_BARS = 40
# 10 to the power of 18, less 1
GREATEST_NUMBER = 999999999999999999


def is_full(items):
    """Tell whether no further item can be added."""
    return len(items) >= MOST_ITEMS


def append_item(items, item):
    """Append an item and answer its index."""
    items.append(item)
    return [len(items) - 1]


def add_heading(items, level, text):
    """Add a heading."""
    if is_full(items):
        return [TOO_MANY_ITEMS]
    if not is_within(level, 1, 3):
        return [BAD_LEVEL]
    if not is_text(text):
        return [NOT_A_TEXT]
    return append_item(items, Heading(level, tuple(text)))


def add_paragraph(items, text):
    """Add a paragraph."""
    if is_full(items):
        return [TOO_MANY_ITEMS]
    if not is_text(text):
        return [NOT_A_TEXT]
    return append_item(items, Paragraph(tuple(text)))


def is_table_size(cell_count, columns):
    """Tell whether a table with these columns may have so many cells, headers among them."""
    if cell_count == 0 or cell_count > MOST_ROWS_WITH_HEADERS * columns:
        return False
    return cell_count % columns == 0


def add_table(items, columns, numbers):
    """Add a table, whose headers and cells are encoded in the numbers."""
    if is_full(items):
        return [TOO_MANY_ITEMS]
    if not is_within(columns, 1, MOST_COLUMNS):
        return [BAD_COLUMN_COUNT]
    cells = decode_cells(numbers)
    if cells is None:
        return [BAD_CELLS]
    if not is_table_size(len(cells), columns):
        return [BAD_CELL_COUNT]
    rows = cut_into_pieces(cells, columns)
    if any([is_number_cell(header) for header in rows[0]]):
        return [BAD_CELLS]
    return append_item(items, Table(rows[0], rows[1:]))


def is_coordinate(number):
    """Tell whether a number may be a coordinate of a point."""
    return is_within(number, -GREATEST_NUMBER, GREATEST_NUMBER)


def split_into_points(coordinates):
    """Pair x and y of each point."""
    return [(coordinates[place], coordinates[place + 1]) for place in range(0, len(coordinates), 2)]


def add_plot(items, height, coordinates):
    """Add a plot, whose points are given by x and y in turn."""
    if is_full(items):
        return [TOO_MANY_ITEMS]
    if not is_within(height, 3, 40):
        return [BAD_PLOT_HEIGHT]
    if len(coordinates) % 2 != 0 or len(coordinates) > MOST_COORDINATES:
        return [BAD_COORDINATE_COUNT]
    if not all([is_coordinate(number) for number in coordinates]):
        return [OUT_OF_RANGE]
    return append_item(items, Plot(height, split_into_points(coordinates)))


def add_check(items, passed, text):
    """Add a check mark."""
    if is_full(items):
        return [TOO_MANY_ITEMS]
    if not is_within(passed, 0, 1):
        return [NOT_ZERO_OR_ONE]
    if not is_text(text):
        return [NOT_A_TEXT]
    return append_item(items, Check(passed, tuple(text)))


def is_text_and_number(pair):
    """Tell whether two cells are a text and a number."""
    return is_text_cell(pair[0]) and is_number_cell(pair[1])


def add_bars(items, numbers):
    """Add a bar chart, whose texts and numbers are encoded in turn."""
    if is_full(items):
        return [TOO_MANY_ITEMS]
    cells = decode_cells(numbers)
    if cells is None:
        return [BAD_CELLS]
    if len(cells) % 2 != 0 or len(cells) > MOST_CELLS_OF_BARS:
        return [BAD_CELL_COUNT]
    pairs = cut_into_pieces(cells, 2)
    if not all([is_text_and_number(pair) for pair in pairs]):
        return [BAD_CELLS]
    bars = [(pair[0][1], pair[1][1]) for pair in pairs]
    if not all([is_within(bar[1], 0, GREATEST_NUMBER) for bar in bars]):
        return [OUT_OF_RANGE]
    return append_item(items, BarChart(bars))


def read_table(items, text):
    """Add the table whose full text is given."""
    if is_full(items):
        return [TOO_MANY_ITEMS]
    table = read_full_text(text)
    if table is None:
        return [NOT_A_FULL_TEXT]
    return append_item(items, table)
