"""Calls, requests and views of the items, as the tests need them."""

import unittest

from reportlayout.report import answers, perform_calls

HUGE = 10 ** 18
NOT_IN_A_TEXT = (-HUGE, -1000, -1, 0, 9, 11, 31, 127, 128, 255, 256, 1000, HUGE)
IN_A_TEXT = (10, 32, 33, 34, 65, 92, 124, 125, 126)
BELOW_ZERO = (-HUGE, -2, -1)
# Lists that do not consist of encoded cells, nor do they behind encoded cells.
BAD_ENCODINGS = (
    [0], [1], [1, 1], [1, 2, 65], [1, 200] + [65] * 199,
    [2], [-1], [2, 0], [-1, 0], [10, 5], [HUGE, 0], [-HUGE, 0], [2, 1, 65],
    [1, -1], [1, -1, 65], [1, 201] + [65] * 201, [1, HUGE], [1, -HUGE], [1, HUGE, 65],
    [1, 201],
)


def text(words):
    return [ord(sign) for sign in words]


def cells(*values):
    """Encode whole numbers and texts as cells."""
    encoded = []
    for value in values:
        if isinstance(value, int):
            encoded += [0, value]
        else:
            encoded += [1, len(value)] + text(value)
    return encoded


def with_list(*numbers_then_list):
    numbers = list(numbers_then_list[:-1])
    listed = list(numbers_then_list[-1])
    return numbers + [len(listed)] + listed


def add_heading(level, numbers):
    return with_list(0, level, numbers)


def add_paragraph(numbers):
    return with_list(1, numbers)


def add_table(columns, numbers):
    return with_list(2, columns, numbers)


def add_plot(height, coordinates):
    return with_list(3, height, coordinates)


def add_check(passed, numbers):
    return with_list(4, passed, numbers)


def add_bars(numbers):
    return with_list(5, numbers)


def remove_item(index):
    return [6, index]


def move_item(index, target):
    return [7, index, target]


def sort_rows(index, column, descending):
    return [8, index, column, descending]


def full_report():
    """Twelve calls that fill the report with each kind of item."""
    return [
        add_table(1, cells("t", 2, "b", 1)),
        add_heading(1, text("h")),
        add_paragraph(text("p")),
        add_plot(3, [1, 2]),
        add_check(1, text("c")),
        add_bars(cells("b", 1)),
    ] * 2


def join(calls):
    return [number for call in calls for number in call]


def split_answers(numbers):
    result = []
    place = 0
    while place < len(numbers):
        end = place + 1 + numbers[place]
        result.append(numbers[place + 1:end])
        place = end
    return result


def ask(*calls):
    """The answers to calls of one request, a list each."""
    given = answers(join(calls))
    result = split_answers(given)
    assert len(result) == len(calls), given
    assert join([[len(answer)] + answer for answer in result]) == given
    return result


def last(*calls):
    return ask(*calls)[-1]


def view(item):
    return (item.__class__.__name__, repr(vars(item)))


def items_after(*calls):
    """Views of the items after the calls of one request."""
    items = []
    perform_calls(items, join(calls))
    return [view(item) for item in items]


def column_counts(calls):
    """For each item, its number of columns; 0 if it is no table. Seen by answers alone."""
    counts = []
    while last(*calls, sort_rows(len(counts), 0, 0)) != [-11]:
        count = 0
        while last(*calls, sort_rows(len(counts), count, 0)) == [0]:
            count += 1
        counts.append(count)
    return counts


class CallTest(unittest.TestCase):
    """Tests of calls that are refused, or that are answered by an index."""

    def assert_refused(self, call, code, before=()):
        given = ask(*before, call)
        self.assertEqual(given[-1], [code], call)
        self.assertEqual(items_after(*before, call), items_after(*before), call)

    def assert_adds(self, call):
        """Tell that an item is appended, first to an empty report, then behind another item."""
        self.assertEqual(ask(call), [[0]], call)
        before = add_paragraph(text("first"))
        self.assertEqual(ask(before, call), [[0], [1]], call)
        after = items_after(before, call)
        self.assertEqual(after[0], items_after(before)[0])
        self.assertEqual(len(after), 2)

    def assert_full_first(self, calls):
        """Tell that a full report refuses calls, whatever else is wrong with them."""
        for call in calls:
            self.assert_refused(call, -1, full_report())
            eleven = full_report()[:11]
            self.assertNotEqual(last(*eleven, call), [-1], call)
