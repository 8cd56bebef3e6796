"""The interface: one list of whole numbers goes in, one comes back."""

import time
import unittest

from reportlayout.report import answers
from tests.helpers import HUGE, add_bars, add_check, add_heading, add_paragraph, add_plot, add_table, ask, cells
from tests.helpers import column_widths, document_lines, full_report, full_text, item_kinds, item_lines, join, move_item
from tests.helpers import pages, read_table, remove_item, select_columns, sort_rows, split_answers, table_cells, text
from tests.helpers import with_list

EXAMPLE_TABLE = [1, 1, 110, 1, 4, 110, 97, 109, 101, 0, 5, 1, 1, 97, 0, -12, 1, 5, 98, 32, 124, 32, 99]


def lines(*words):
    """The answer of a list of lines."""
    return [len(words)] + join([with_list(text(line)) for line in words])


# The calls of the section "Examples", and their answers.
FIRST_EXAMPLES = (
    (add_table(2, EXAMPLE_TABLE), [0]),
    (item_lines(0, 40), lines(
        "+-----+----------+",
        "| n   | name     |",
        "+-----+----------+",
        "|   5 | a        |",
        '| -12 | "b \\p c" |',
        "+-----+----------+")),
    (column_widths(0, 20), [2, 3, 8]),
    (sort_rows(0, 0, 0), [0]),
    (table_cells(0), [
        2, 2, 1, 1, 110, 1, 4, 110, 97, 109, 101, 0, -12, 1, 5, 98, 32, 124, 32, 99, 0, 5, 1, 1, 97]),
    (select_columns(0, [1]), [0]),
    (add_paragraph(text("To be, or not to be, that is the question.")), [1]),
    (item_lines(1, 20), lines("To be, or not to be,", "that is the", "question.")),
    (add_plot(5, [0, 0, 10, 5, 10, 5, 5, 2]), [2]),
    (item_lines(2, 20), lines(
        "5|                 2",
        " |",
        " |",
        " |        *",
        "0|*",
        " +------------------",
        "  0               10")),
    (add_bars([1, 1, 97, 0, 3, 1, 1, 98, 0, 1]), [3]),
    (item_lines(3, 20), lines("a ================ 3", "b =====            1")),
    (add_heading(1, text("Report")), [4]),
    (move_item(4, 0), [0]),
    (item_kinds(), [5, 0, 2, 1, 3, 5]),
    (add_check(0, text("tests")), [5]),
    (item_lines(5, 20), lines("[no] tests")),
    (add_heading(4, text("x")), [-2]),
    (sort_rows(0, 0, 0), [-12]),
)
SECOND_EXAMPLES = (
    (read_table("+---+\n| x |\n+---+\n| 1 |\n+---+"), [0]),
    (table_cells(0), [1, 1, 1, 1, 120, 0, 1]),
    (read_table("| x |"), [-16]),
    (item_lines(0, 19), [-14]),
    (pages(20, 5), [
        1, 5, 5, 43, 45, 45, 45, 43, 5, 124, 32, 120, 32, 124, 5, 43, 45, 45, 45, 43, 5, 124, 32, 49, 32, 124,
        5, 43, 45, 45, 45, 43]),
)


class ExamplesTest(unittest.TestCase):

    def assert_answered(self, examples):
        calls = [call for call, answer in examples]
        for count in range(1, len(calls) + 1):
            self.assertEqual(ask(*calls[:count]), [answer for call, answer in examples[:count]])

    def test_examples_of_the_document(self):
        self.assert_answered(FIRST_EXAMPLES)

    def test_examples_on_a_new_object(self):
        self.assert_answered(SECOND_EXAMPLES)

    def test_one_object_behind_the_other(self):
        for number in range(2):
            self.assert_answered(FIRST_EXAMPLES)
            self.assert_answered(SECOND_EXAMPLES)

    def test_calls_as_the_interface_writes_them(self):
        self.assertEqual(answers([0, 1, 6, 82, 101, 112, 111, 114, 116]), [1, 0])
        self.assertEqual(answers([2, 1, 5, 1, 1, 120, 0, -5]), [1, 0])
        self.assertEqual(answers([5, 0]), [1, 0])
        self.assertEqual(answers([15]), [1, 0])
        self.assertEqual(answers([2, 1, 5, 1, 1, 120, 0, -5, 9, 0, 1, 0]), [1, 0, 1, 0])


class InterfaceTest(unittest.TestCase):

    def test_each_call_written_out(self):
        self.assertEqual(answers([
            0, 3, 1, 65,
            1, 2, 65, 10,
            2, 2, 10, 1, 0, 1, 1, 66, 0, 5, 1, 1, 6,
            2, 2, 10, 1, 0, 1, 1, 66, 0, 5, 1, 1, 65,
            3, 40, 2, 7, 8,
            4, 1, 0,
            5, 4, 1, 0, 0, 9,
            7, 5, 0,
            8, 3, 1, 1,
            6, 5,
            6, 5,
        ]), [1, 0, 1, 1, 1, -5, 1, 2, 1, 3, 1, 4, 1, 5, 1, 0, 1, 0, 1, 0, 1, -11])

    def test_each_call_that_lays_out_reads_or_selects_written_out(self):
        self.assertEqual(answers([
            14, 29, 43, 45, 45, 45, 43, 10, 124, 32, 120, 32, 124, 10, 43, 45, 45, 45, 43, 10,
            124, 32, 49, 32, 124, 10, 43, 45, 45, 45, 43,
            9, 0, 2, 0, 0,
            13, 0, 20,
            16, 0,
            15,
            8, 0, 1, 1,
            4, 1, 0,
            10, 1, 20,
            6, 0,
            11, 20,
            12, 20, 5,
            9, 0, 0,
            14, 0,
        ]), [
            1, 0, 1, 0, 3, 2, 1, 1, 12, 2, 1, 1, 1, 120, 1, 1, 120, 0, 1, 0, 1, 2, 1, 2, 1, 0, 1, 1,
            7, 1, 5, 91, 111, 107, 93, 32, 1, 0, 7, 1, 5, 91, 111, 107, 93, 32,
            8, 1, 1, 5, 91, 111, 107, 93, 32, 1, -12, 1, -16,
        ])

    def test_empty_lists_between_calls(self):
        self.assertEqual(
            answers([1, 0, 0, 1, 0, 3, 3, 0, 4, 0, 0, 5, 0, 2, 1, 0]), [1, 0, 1, 1, 1, 2, 1, 3, 1, 4, 1, -6])

    def test_lists_that_look_like_calls(self):
        self.assertEqual(answers([1, 3, 6, 6, 6, 3, 3, 4, 6, 0, 6, 0, 6, 0]), [1, -3, 1, 0, 1, 0])

    def test_errors_are_answered_alone(self):
        self.assertEqual(answers([0, 0, 0]), [1, -2])
        self.assertEqual(answers([6, HUGE, 6, -HUGE]), [1, -11, 1, -11])

    def test_calls_go_on_behind_an_error(self):
        self.assertEqual(
            ask(add_heading(9, []), add_heading(1, []), remove_item(1), remove_item(0), remove_item(0)),
            [[-2], [0], [-11], [0], [-11]])

    def assert_unchanged(self, *calls):
        self.assertLessEqual(len(calls), 20)
        given = join(calls)
        copy = list(given)
        first = answers(given)
        self.assertEqual(given, copy)
        self.assertEqual(answers(given), first)

    def test_what_is_handed_in_is_unchanged(self):
        self.assert_unchanged(
            *full_report(), sort_rows(0, 0, 0), sort_rows(6, 0, 1), move_item(0, 11), remove_item(3),
            add_heading(4, [9]), add_table(1, [2]), add_bars(cells("a")))
        self.assert_unchanged(
            *full_report(), select_columns(0, [0, 0]), item_lines(0, 20), document_lines(20), pages(20, 5),
            column_widths(0, 20), item_kinds(), table_cells(0), read_table("x"))
        self.assert_unchanged(
            read_table(full_text(["h", ""], [2, "|"], [1, "~"])), sort_rows(0, 0, 0), select_columns(0, [1, 0]),
            document_lines(20), add_paragraph(text("a\n b" * 40)), item_lines(1, 20), pages(21, 6))

    def test_whole_numbers_in_a_list_come_back(self):
        for calls in (
            [sort_rows(0, 0, 0), move_item(0, 1), remove_item(0)],
            [document_lines(20), pages(20, 5), item_kinds(), table_cells(0), column_widths(0, 20), read_table("")],
        ):
            given = answers(join(full_report() + calls))
            self.assertIs(given.__class__, list)
            self.assertEqual({number.__class__ for number in given}, {int})

    def test_each_request_begins_with_no_items(self):
        for again in range(3):
            self.assertEqual(ask(item_kinds(), document_lines(20), pages(20, 5)), [[0], [0], [0]])
            self.assertEqual(ask(remove_item(0), add_paragraph([])), [[-11], [0]])
            self.assertEqual(ask(*full_report()), [[index] for index in range(12)])

    def test_same_list_twice(self):
        calls = join([add_table(1, cells("h", 2, 1)), sort_rows(0, 0, 1), remove_item(0), remove_item(0)])
        self.assertEqual(answers(calls), [1, 0, 1, 0, 1, 0, 1, -11])
        self.assertEqual(answers(calls), [1, 0, 1, 0, 1, 0, 1, -11])

    def test_what_comes_back_is_the_callers_own(self):
        first = answers([1, 0])
        first.append(99)
        self.assertEqual(answers([1, 0]), [1, 0])

    def test_long_request(self):
        bars = add_bars(cells("x" * 200, HUGE - 1) * 20)
        table = add_table(8, cells("y" * 100) * 50)
        calls = [bars, add_bars([0, 1] * 2000)] + [table] + [add_paragraph([32] * 200)] * 9 + [add_paragraph([])]
        self.assertEqual(ask(*calls), [[0], [-6], [-6]] + [[index] for index in range(1, 10)] + [[10]])


class LargeRequestsTest(unittest.TestCase):
    """Requests of 20 calls with the largest inputs that may be handed in."""

    def assert_quick(self, calls, expected):
        numbers = join(calls)
        self.assertEqual(len(calls), 20)
        self.assertLessEqual(len(numbers), 17000)
        start = time.monotonic()
        given = answers(numbers)
        taken = time.monotonic() - start
        self.assertLess(taken, 10)
        self.assertEqual([answer[0] for answer in split_answers(given)][:len(expected)], expected)

    def test_items_of_each_kind(self):
        bars = add_bars(cells("x" * 200, HUGE - 1) * 20)
        plot = add_plot(40, [HUGE - 1, 1 - HUGE] * 60)
        calls = [bars, plot, add_bars([0, 1] * 500), add_table(8, cells("y" * 100) * 10)]
        calls += [add_paragraph(text("\n" * 200)), add_heading(3, [32] * 1000)]
        calls += [plot] * 9 + [document_lines(120), pages(120, 5), document_lines(20), pages(20, 60), pages(120, 60)]
        self.assert_quick(calls, [0, 1, -6, -6, 2, -3] + list(range(3, 12)))

    def test_tables_of_long_texts(self):
        tables = [add_table(1, cells(*["~" * 200] * 25))] * 3
        wide = [select_columns(index, [0] * 8) for index in range(3)]
        views = [document_lines(120), pages(120, 5), document_lines(49), pages(20, 5), column_widths(2, 120)] * 3
        calls = tables + wide + views[:14]
        self.assert_quick(calls, [0, 1, 2, 0, 0, 0])

    def test_all_cells_of_long_texts(self):
        table = add_table(1, cells(*["~" * 200] * 25))
        calls = [table] * 3 + [select_columns(index, [0] * 8) for index in range(3)] + [table_cells(0)] * 14
        self.assert_quick(calls, [0, 1, 2, 0, 0, 0] + [8] * 14)

    def test_one_long_list(self):
        rest = [item_kinds()] * 19
        for listed, code in (
            ([1, 0] * 8000, -6), ([0, 5] * 8000, -6), ([1, 200] + [65] * 15000, -5), ([1, 16000] + [65] * 16000, -5),
            ([1, 0] * 8000 + [2], -5),
        ):
            self.assert_quick([add_table(8, listed)] + rest, [code] + [0] * 19)
            self.assert_quick([add_bars(listed)] + rest, [code] + [0] * 19)

    def test_one_long_text_to_read(self):
        rest = [item_kinds()] * 19
        for words in (
            "+" * 16900, "|" * 16900, "\n" * 16900, "1" * 16900, "\\" * 16900, "+\n| " + "1" * 16800 + " |\n+\n+",
        ):
            self.assert_quick([read_table(words)] + rest, [-16] + [0] * 19)
        columns = ["\n" * 200] * 7
        whole = full_text(columns, columns)
        self.assertLessEqual(len(whole), 16900)
        views = [document_lines(120), pages(120, 5), table_cells(0)] * 6 + [item_kinds()]
        self.assert_quick([read_table(whole)] + views, [0])
        rows = full_text(["x" * 200] * 2, *[["y" * 200] * 2] * 24)
        self.assertLessEqual(len(rows), 16900)
        self.assert_quick([read_table(rows)] + views, [0])

    def test_many_lines(self):
        calls = [add_paragraph(text("\n" * 200))] * 12 + [pages(20, 5), document_lines(120)] * 4
        self.assert_quick(calls, list(range(12)))
        calls = [add_paragraph(text("a " * 100))] * 12 + [pages(20, 5), document_lines(120)] * 4
        self.assert_quick(calls, list(range(12)))
