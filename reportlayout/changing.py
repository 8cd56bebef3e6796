"""The calls that change the list of items, or an item in it.

Each answers a list: 0, or an error code alone.
"""

from reportlayout.errors import BAD_COLUMN_COUNT, NO_SUCH_COLUMN, NO_SUCH_ITEM, NOT_A_TABLE, NOT_ZERO_OR_ONE
from reportlayout.items import MOST_COLUMNS, Table, has_item
from reportlayout.ranges import is_within


def remove_item(items, index):
    """Remove an item."""
    if not has_item(items, index):
        return [NO_SUCH_ITEM]
    items.pop(index)
    return [0]


def move_item(items, index, target):
    """Remove an item and insert it again, so that its index is target."""
    if not has_item(items, index) or not has_item(items, target):
        return [NO_SUCH_ITEM]
    item = items.pop(index)
    items.insert(target, item)
    return [0]


def order_rows(rows, column, descending):
    """Give the rows in the order of their cells in a column."""
    def cell_in_column(row):
        return row[column]

    # reverse=True keeps the order of equal rows, which turning a sorted list round would not
    if descending == 1:
        return sorted(rows, key=cell_in_column, reverse=True)
    return sorted(rows, key=cell_in_column)


def has_column(table, column):
    """Tell whether a table has a column."""
    return is_within(column, 0, len(table.headers) - 1)


def sort_rows(items, index, column, descending):
    """Sort the rows of a table by a column."""
    if not has_item(items, index):
        return [NO_SUCH_ITEM]
    table = items[index]
    if not isinstance(table, Table):
        return [NOT_A_TABLE]
    if not has_column(table, column):
        return [NO_SUCH_COLUMN]
    if not is_within(descending, 0, 1):
        return [NOT_ZERO_OR_ONE]
    table.rows = order_rows(table.rows, column, descending)
    return [0]


def cells_in_columns(row, columns):
    """Give the cells of a row in columns, in the order of the columns."""
    return [row[column] for column in columns]


def select_columns(items, index, columns):
    """Replace a table by the table of some of its columns."""
    if not has_item(items, index):
        return [NO_SUCH_ITEM]
    table = items[index]
    if not isinstance(table, Table):
        return [NOT_A_TABLE]
    if not is_within(len(columns), 1, MOST_COLUMNS):
        return [BAD_COLUMN_COUNT]
    if not all([has_column(table, column) for column in columns]):
        return [NO_SUCH_COLUMN]
    table.headers = cells_in_columns(table.headers, columns)
    table.rows = [cells_in_columns(row, columns) for row in table.rows]
    return [0]
