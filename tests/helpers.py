"""Calls, requests, and what the answers tell, as the tests need them. All of it goes through answers."""

import re
import unittest

from reportlayout.report import answers

HUGE = 10 ** 18
# The greatest coordinate of a point and the greatest number of a bar.
GREATEST = HUGE - 1
MOST_CALLS = 20
NOT_IN_A_TEXT = (-HUGE, -1000, -1, 0, 9, 11, 31, 127, 128, 255, 256, 1000, HUGE)
IN_A_TEXT = (10, 32, 33, 34, 65, 92, 124, 125, 126)
BELOW_ZERO = (-HUGE, -2, -1)
NO_WIDTHS = (-HUGE, -20, -1, 0, 1, 19, 121, 122, HUGE)
NO_PAGE_HEIGHTS = (-HUGE, -5, -1, 0, 3, 4, 61, 62, HUGE)
# Lists that do not consist of encoded cells, nor do they behind encoded cells.
BAD_ENCODINGS = (
    [0], [1], [1, 1], [1, 2, 65], [1, 200] + [65] * 199,
    [2], [-1], [2, 0], [-1, 0], [10, 5], [HUGE, 0], [-HUGE, 0], [2, 1, 65],
    [1, -1], [1, -1, 65], [1, 201] + [65] * 201, [1, HUGE], [1, -HUGE], [1, HUGE, 65],
    [1, 201],
)


def text(words):
    return [ord(sign) for sign in words]


def cells(*values):
    """Encode whole numbers and texts as cells."""
    encoded = []
    for value in values:
        if isinstance(value, int):
            encoded += [0, value]
        else:
            encoded += [1, len(value)] + text(value)
    return encoded


def with_list(*numbers_then_list):
    numbers = list(numbers_then_list[:-1])
    listed = list(numbers_then_list[-1])
    return numbers + [len(listed)] + listed


def add_heading(level, numbers):
    return with_list(0, level, numbers)


def add_paragraph(numbers):
    return with_list(1, numbers)


def add_table(columns, numbers):
    return with_list(2, columns, numbers)


def add_plot(height, coordinates):
    return with_list(3, height, coordinates)


def add_check(passed, numbers):
    return with_list(4, passed, numbers)


def add_bars(numbers):
    return with_list(5, numbers)


def remove_item(index):
    return [6, index]


def move_item(index, target):
    return [7, index, target]


def sort_rows(index, column, descending):
    return [8, index, column, descending]


def select_columns(index, columns):
    return with_list(9, index, columns)


def item_lines(index, width):
    return [10, index, width]


def document_lines(width):
    return [11, width]


def pages(width, height):
    return [12, width, height]


def column_widths(index, width):
    return [13, index, width]


def read_table(words):
    return with_list(14, text(words))


def item_kinds():
    return [15]


def table_cells(index):
    return [16, index]


def table_of(*rows):
    """The call add_table for a row of headers and rows of cells."""
    return add_table(len(rows[0]), cells(*join(rows)))


def full_report():
    """Twelve calls that fill the report with each kind of item."""
    return [
        add_table(1, cells("t", 2, "b", 1)),
        add_heading(1, text("h")),
        add_paragraph(text("p")),
        add_plot(3, [1, 2]),
        add_check(1, text("c")),
        add_bars(cells("b", 1)),
    ] * 2


def other_items():
    """Calls that add one item of each kind but a table."""
    return full_report()[1:6]


def join(calls):
    return [number for call in calls for number in call]


def split_answers(numbers):
    result = []
    place = 0
    while place < len(numbers):
        end = place + 1 + numbers[place]
        result.append(numbers[place + 1:end])
        place = end
    return result


def ask(*calls):
    """The answers to calls of one request, a list each."""
    given = answers(join(calls))
    result = split_answers(given)
    assert len(result) == len(calls), given
    assert join([[len(answer)] + answer for answer in result]) == given
    return result


def last(*calls):
    return ask(*calls)[-1]


def take_lines(answer, place):
    """The lines whose list begins at a place of an answer, and the place behind it."""
    lines = []
    count = answer[place]
    place += 1
    for number in range(count):
        end = place + 1 + answer[place]
        line = answer[place + 1:end]
        assert len(line) == answer[place], answer
        assert all(32 <= byte <= 126 for byte in line), line
        lines.append("".join(map(chr, line)))
        place = end
    return lines, place


def lines_in(answer):
    lines, end = take_lines(answer, 0)
    assert end == len(answer), answer
    return lines


def pages_in(answer):
    result = []
    place = 1
    for number in range(answer[0]):
        lines, place = take_lines(answer, place)
        result.append(lines)
    assert place == len(answer), answer
    return result


def table_in(answer):
    """The row of headers and the rows of cells that table_cells answers."""
    columns, row_count = answer[:2]
    values = []
    place = 2
    while place < len(answer):
        if answer[place] == 0:
            values.append(answer[place + 1])
            place += 2
        else:
            assert answer[place] == 1, answer
            end = place + 2 + answer[place + 1]
            values.append("".join(map(chr, answer[place + 2:end])))
            place = end
    assert place == len(answer), answer
    assert len(values) == columns * (row_count + 1), answer
    return [values[start:start + columns] for start in range(0, len(values), columns)]


def laid_out(call, width):
    """The lines of the item that a call adds."""
    return lines_in(last(call, item_lines(0, width)))


def document_after(calls, width):
    return lines_in(last(*calls, document_lines(width)))


def pages_after(calls, width, height):
    return pages_in(last(*calls, pages(width, height)))


def table_after(*calls):
    """The row of headers and the rows of the first item."""
    return table_in(last(*calls, table_cells(0)))


def views_after(calls, views):
    """The answers to calls that change nothing, in as few requests as twenty calls each allow."""
    room = MOST_CALLS - len(calls)
    assert room > 0, calls
    result = []
    for start in range(0, len(views), room):
        result += ask(*calls, *views[start:start + room])[len(calls):]
    return result


def kinds_after(*calls):
    answer = last(*calls, item_kinds())
    assert answer[0] == len(answer) - 1, answer
    return answer[1:]


def items_after(*calls):
    """What is to be seen of each item after the calls of one request."""
    kinds = kinds_after(*calls)
    views = [view for index in range(len(kinds))
             for view in (item_lines(index, 120), item_lines(index, 20), table_cells(index))]
    seen = views_after(calls, views)
    return [[kind] + seen[3 * index:3 * index + 3] for index, kind in enumerate(kinds)]


def state_after(*calls):
    """What is to be seen of a whole report after the calls of one request."""
    tables = [table_cells(index) for index, kind in enumerate(kinds_after(*calls)) if kind == 2]
    return views_after(calls, [item_kinds(), document_lines(120), document_lines(20)] + tables)


def column_counts(calls):
    """For each item, its number of columns; 0 if it is no table."""
    return [view[3][0] if view[0] == 2 else 0 for view in items_after(*calls)]


def printed(value):
    """The printed form of a cell, written once more for the tests."""
    if isinstance(value, int):
        return str(value)
    number = re.fullmatch("0|-?[1-9][0-9]*", value)
    if value and not number and value == value.strip(" ") and not re.search('[\n"\\\\|~]', value):
        return value
    for sign, escape in (("\\", "\\\\"), ('"', '\\"'), ("\n", "\\n"), ("|", "\\p"), ("~", "\\t")):
        value = value.replace(sign, escape)
    return '"' + value + '"'


def full_text(*rows):
    """The full text of a table, written once more for the tests."""
    widths = [max(len(printed(value)) for value in column) for column in zip(*rows)]
    ruler = "+" + "".join("-" * (width + 2) + "+" for width in widths)
    lines = []
    for row in rows:
        fields = [printed(value).rjust(width) if isinstance(value, int) else printed(value).ljust(width)
                  for value, width in zip(row, widths)]
        lines.append("| " + " | ".join(fields) + " |")
    return "\n".join([ruler, lines[0], ruler] + lines[1:] + [ruler])


class CallTest(unittest.TestCase):
    """Tests of calls that are refused, or that are answered by an index."""

    def assert_refused(self, call, code, before=()):
        """Tell that a call is answered by an error alone, and that nothing else is to be seen behind it."""
        given = ask(*before, call)
        self.assertEqual(given[-1], [code], call)
        self.assertEqual(state_after(*before, call), state_after(*before), call)

    def assert_adds(self, call):
        """Tell that an item is appended, first to an empty report, then behind another item."""
        self.assertEqual(ask(call), [[0]], call)
        before = add_paragraph(text("first"))
        self.assertEqual(ask(before, call), [[0], [1]], call)
        after = items_after(before, call)
        self.assertEqual(after[0], items_after(before)[0])
        self.assertEqual(len(after), 2)

    def assert_full_first(self, calls):
        """Tell that a full report refuses calls, whatever else is wrong with them."""
        for call in calls:
            self.assert_refused(call, -1, full_report())
            eleven = full_report()[:11]
            self.assertNotEqual(last(*eleven, call), [-1], call)
