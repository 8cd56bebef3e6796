"""The calls on one report, whose state is the list of its items."""

from reportlayout.adding import add_bars, add_check, add_heading, add_paragraph, add_plot, add_table
from reportlayout.changing import move_item, remove_item, sort_rows
from reportlayout.request import split_into_calls


def perform_call(items, call):
    """Carry out one call on the items and give the numbers that it answers."""
    number = call.number
    integers = call.integers
    if number == 0:
        return add_heading(items, integers[0], call.listed)
    if number == 1:
        return add_paragraph(items, call.listed)
    if number == 2:
        return add_table(items, integers[0], call.listed)
    if number == 3:
        return add_plot(items, integers[0], call.listed)
    if number == 4:
        return add_check(items, integers[0], call.listed)
    if number == 5:
        return add_bars(items, call.listed)
    if number == 6:
        return remove_item(items, integers[0])
    if number == 7:
        return move_item(items, integers[0], integers[1])
    return sort_rows(items, integers[0], integers[1], integers[2])


def perform_calls(items, calls):
    """Carry out calls on the items; give for each how many numbers it answers, and these."""
    answered = []
    for call in split_into_calls(calls):
        answer = perform_call(items, call)
        answered.append(len(answer))
        answered.extend(answer)
    return answered


def answers(calls):
    """Carry out calls on a new report; give for each how many numbers it answers, and these."""
    return perform_calls([], calls)
