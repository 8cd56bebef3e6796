"""The calls that change the list of items, or an item in it.

Each answers a list: 0, or an error code alone.
"""

from reportlayout.errors import NO_SUCH_COLUMN, NO_SUCH_ITEM, NOT_A_TABLE, NOT_ZERO_OR_ONE
from reportlayout.items import Table, has_item
from reportlayout.ranges import is_within


def remove_item(items, index):
    """Remove an item."""
    if not has_item(items, index):
        return [NO_SUCH_ITEM]
    items.pop(index)
    return [0]


def move_item(items, index, target):
    """Remove an item and insert it again, so that its index is target."""
    if not has_item(items, index) or not has_item(items, target):
        return [NO_SUCH_ITEM]
    item = items.pop(index)
    items.insert(target, item)
    return [0]


def order_rows(rows, column, descending):
    """Give the rows in the order of their cells in a column."""
    def cell_in_column(row):
        return row[column]

    # reverse=True keeps the order of equal rows, which turning a sorted list round would not
    if descending == 1:
        return sorted(rows, key=cell_in_column, reverse=True)
    return sorted(rows, key=cell_in_column)


def sort_rows(items, index, column, descending):
    """Sort the rows of a table by a column."""
    if not has_item(items, index):
        return [NO_SUCH_ITEM]
    table = items[index]
    if not isinstance(table, Table):
        return [NOT_A_TABLE]
    if not is_within(column, 0, len(table.headers) - 1):
        return [NO_SUCH_COLUMN]
    if not is_within(descending, 0, 1):
        return [NOT_ZERO_OR_ONE]
    table.rows = order_rows(table.rows, column, descending)
    return [0]
