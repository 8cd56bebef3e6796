"""The calls that show the items and change nothing.

Each answers a list: what the call returns, or an error code alone.
"""

from reportlayout.cells import encode_cell
from reportlayout.documents import lay_out_document, lay_out_item, lay_out_pages
from reportlayout.errors import BAD_PAGE_HEIGHT, BAD_WIDTH, NO_SUCH_ITEM, NOT_A_TABLE
from reportlayout.items import Table, has_item
from reportlayout.ranges import is_within
from reportlayout.table_layout import visible_widths


def is_width(width):
    """Tell whether a number may be the width of a layout."""
    return is_within(width, 20, 120)


def encode_lines(lines):
    """Give the whole numbers that tell a list of lines."""
    encoded = [len(lines)]
    for line in lines:
        encoded.append(len(line))
        encoded.extend(line)
    return encoded


def item_lines(items, index, width):
    """Show the lines of an item."""
    if not has_item(items, index):
        return [NO_SUCH_ITEM]
    if not is_width(width):
        return [BAD_WIDTH]
    return encode_lines(lay_out_item(items[index], width))


def document_lines(items, width):
    """Show the lines of the document."""
    if not is_width(width):
        return [BAD_WIDTH]
    return encode_lines(lay_out_document(items, width))


def pages(items, width, height):
    """Show the pages of the document."""
    if not is_width(width):
        return [BAD_WIDTH]
    if not is_within(height, 5, 60):
        return [BAD_PAGE_HEIGHT]
    laid_out = lay_out_pages(items, width, height)
    encoded = [len(laid_out)]
    for page in laid_out:
        encoded.extend(encode_lines(page))
    return encoded


def column_widths(items, index, width):
    """Show the widths of the visible columns of a table."""
    if not has_item(items, index):
        return [NO_SUCH_ITEM]
    if not is_width(width):
        return [BAD_WIDTH]
    table = items[index]
    if not isinstance(table, Table):
        return [NOT_A_TABLE]
    widths = visible_widths(table, width)
    return [len(widths)] + widths


def item_kinds(items):
    """Show the kind of each item."""
    return [len(items)] + [item.kind for item in items]


def table_cells(items, index):
    """Show the headers and the cells of a table."""
    if not has_item(items, index):
        return [NO_SUCH_ITEM]
    table = items[index]
    if not isinstance(table, Table):
        return [NOT_A_TABLE]
    encoded = [len(table.headers), len(table.rows)]
    for row in [table.headers] + table.rows:
        for cell in row:
            encoded.extend(encode_cell(cell))
    return encoded
