"""The interface: one list of whole numbers goes in, one comes back."""

import unittest

from reportlayout.report import answers
from tests.helpers import HUGE, add_bars, add_check, add_heading, add_paragraph, add_plot, add_table, ask, cells
from tests.helpers import full_report, items_after, join, move_item, remove_item, sort_rows, text

EXAMPLE_TABLE = [1, 1, 110, 1, 4, 110, 97, 109, 101, 0, 5, 1, 1, 97, 0, -12, 1, 5, 98, 32, 124, 32, 99]


class ExamplesTest(unittest.TestCase):

    def test_examples_of_the_document(self):
        self.assertEqual(ask(
            add_table(2, EXAMPLE_TABLE),
            sort_rows(0, 0, 0),
            add_paragraph(text("To be, or not to be, that is the question.")),
            add_plot(5, [0, 0, 10, 5, 10, 5, 5, 2]),
            add_bars([1, 1, 97, 0, 3, 1, 1, 98, 0, 1]),
            add_heading(1, text("Report")),
            move_item(4, 0),
            add_check(0, text("tests")),
            add_heading(4, text("x")),
            sort_rows(0, 0, 0),
        ), [[0], [0], [1], [2], [3], [4], [0], [5], [-2], [-12]])

    def test_row_with_minus_twelve_comes_first(self):
        in_order = [1, 1, 110, 1, 4, 110, 97, 109, 101, 0, -12, 1, 5, 98, 32, 124, 32, 99, 0, 5, 1, 1, 97]
        self.assertEqual(
            items_after(add_table(2, EXAMPLE_TABLE), sort_rows(0, 0, 0)), items_after(add_table(2, in_order)))

    def test_calls_as_the_interface_writes_them(self):
        self.assertEqual(answers([0, 1, 6, 82, 101, 112, 111, 114, 116]), [1, 0])
        self.assertEqual(answers([2, 1, 5, 1, 1, 120, 0, -5]), [1, 0])
        self.assertEqual(answers([5, 0]), [1, 0])


class InterfaceTest(unittest.TestCase):

    def test_each_call_written_out(self):
        self.assertEqual(answers([
            0, 3, 1, 65,
            1, 2, 65, 10,
            2, 2, 10, 1, 0, 1, 1, 66, 0, 5, 1, 1, 6,
            2, 2, 10, 1, 0, 1, 1, 66, 0, 5, 1, 1, 65,
            3, 40, 2, 7, 8,
            4, 1, 0,
            5, 4, 1, 0, 0, 9,
            7, 5, 0,
            8, 3, 1, 1,
            6, 5,
            6, 5,
        ]), [1, 0, 1, 1, 1, -5, 1, 2, 1, 3, 1, 4, 1, 5, 1, 0, 1, 0, 1, 0, 1, -11])

    def test_empty_lists_between_calls(self):
        self.assertEqual(
            answers([1, 0, 0, 1, 0, 3, 3, 0, 4, 0, 0, 5, 0, 2, 1, 0]), [1, 0, 1, 1, 1, 2, 1, 3, 1, 4, 1, -6])

    def test_lists_that_look_like_calls(self):
        self.assertEqual(answers([1, 3, 6, 6, 6, 3, 3, 4, 6, 0, 6, 0, 6, 0]), [1, -3, 1, 0, 1, 0])

    def test_errors_are_answered_alone(self):
        self.assertEqual(answers([0, 0, 0]), [1, -2])
        self.assertEqual(answers([6, HUGE, 6, -HUGE]), [1, -11, 1, -11])

    def test_calls_go_on_behind_an_error(self):
        self.assertEqual(
            ask(add_heading(9, []), add_heading(1, []), remove_item(1), remove_item(0), remove_item(0)),
            [[-2], [0], [-11], [0], [-11]])

    def test_what_is_handed_in_is_unchanged(self):
        calls = join(full_report() + [
            sort_rows(0, 0, 0), sort_rows(6, 0, 1), move_item(0, 11), remove_item(3),
            add_heading(4, [9]), add_table(1, [2]), add_bars(cells("a")),
        ])
        copy = list(calls)
        answers(calls)
        self.assertEqual(calls, copy)

    def test_whole_numbers_in_a_list_come_back(self):
        given = answers(join(full_report() + [sort_rows(0, 0, 0), move_item(0, 1), remove_item(0)]))
        self.assertIs(given.__class__, list)
        self.assertEqual({number.__class__ for number in given}, {int})

    def test_each_request_begins_with_no_items(self):
        for again in range(3):
            self.assertEqual(ask(remove_item(0), add_paragraph([])), [[-11], [0]])
            self.assertEqual(ask(*full_report()), [[index] for index in range(12)])

    def test_same_list_twice(self):
        calls = join([add_table(1, cells("h", 2, 1)), sort_rows(0, 0, 1), remove_item(0), remove_item(0)])
        self.assertEqual(answers(calls), [1, 0, 1, 0, 1, 0, 1, -11])
        self.assertEqual(answers(calls), [1, 0, 1, 0, 1, 0, 1, -11])

    def test_what_comes_back_is_the_callers_own(self):
        first = answers([1, 0])
        first.append(99)
        self.assertEqual(answers([1, 0]), [1, 0])

    def test_long_request(self):
        bars = add_bars(cells("x" * 200, HUGE - 1) * 20)
        table = add_table(8, cells("y" * 100) * 50)
        calls = [bars, add_bars([0, 1] * 2000)] + [table] + [add_paragraph([32] * 200)] * 9 + [add_paragraph([])]
        self.assertEqual(ask(*calls), [[0], [-6], [-6]] + [[index] for index in range(1, 10)] + [[10]])
