"""The calls on one report, whose state is the list of its items."""

from reportlayout.adding import add_bars, add_check, add_heading, add_paragraph, add_plot, add_table, read_table
from reportlayout.changing import move_item, remove_item, select_columns, sort_rows
from reportlayout.request import split_into_calls
from reportlayout.showing import column_widths, document_lines, item_kinds, item_lines, pages, table_cells


def perform_adding(items, call):
    """Carry out one of the calls that add an item."""
    integers = call.integers
    if call.number == 0:
        return add_heading(items, integers[0], call.listed)
    if call.number == 1:
        return add_paragraph(items, call.listed)
    if call.number == 2:
        return add_table(items, integers[0], call.listed)
    if call.number == 3:
        return add_plot(items, integers[0], call.listed)
    if call.number == 4:
        return add_check(items, integers[0], call.listed)
    if call.number == 5:
        return add_bars(items, call.listed)
    return read_table(items, call.listed)


def perform_changing(items, call):
    """Carry out one of the calls that change the list of items, or an item in it."""
    integers = call.integers
    if call.number == 6:
        return remove_item(items, integers[0])
    if call.number == 7:
        return move_item(items, integers[0], integers[1])
    if call.number == 8:
        return sort_rows(items, integers[0], integers[1], integers[2])
    return select_columns(items, integers[0], call.listed)


def perform_showing(items, call):
    """Carry out one of the calls that change nothing."""
    integers = call.integers
    if call.number == 10:
        return item_lines(items, integers[0], integers[1])
    if call.number == 11:
        return document_lines(items, integers[0])
    if call.number == 12:
        return pages(items, integers[0], integers[1])
    if call.number == 13:
        return column_widths(items, integers[0], integers[1])
    if call.number == 15:
        return item_kinds(items)
    return table_cells(items, integers[0])


def perform_call(items, call):
    """Carry out one call on the items and give the numbers that it answers."""
    if call.number <= 5 or call.number == 14:
        return perform_adding(items, call)
    if call.number <= 9:
        return perform_changing(items, call)
    return perform_showing(items, call)


def answers(calls):
    """Carry out calls on a new report; give for each how many numbers it answers, and these."""
    items = []
    answered = []
    for call in split_into_calls(calls):
        answer = perform_call(items, call)
        answered.append(len(answer))
        answered.extend(answer)
    return answered
