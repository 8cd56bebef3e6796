"""item_kinds and table_cells, and that calls which show the items change nothing."""

from tests.helpers import BELOW_ZERO, HUGE, CallTest
from tests.helpers import add_bars, add_check, add_heading, add_paragraph, add_plot, add_table, ask, cells
from tests.helpers import column_widths, document_lines, full_report, full_text, item_kinds, item_lines, join
from tests.helpers import kinds_after, last, move_item, other_items, pages, read_table, remove_item, select_columns
from tests.helpers import sort_rows, state_after, table_after, table_cells, table_in, table_of, text


class ItemKindsTest(CallTest):

    def test_no_items(self):
        self.assertEqual(ask(item_kinds()), [[0]])
        self.assertEqual(ask(add_paragraph([]), remove_item(0), item_kinds())[2], [0])

    def test_each_kind(self):
        self.assertEqual(last(add_heading(2, text("h")), item_kinds()), [1, 0])
        self.assertEqual(last(add_paragraph(text("p")), item_kinds()), [1, 1])
        self.assertEqual(last(add_table(1, cells("t")), item_kinds()), [1, 2])
        self.assertEqual(last(add_plot(3, []), item_kinds()), [1, 3])
        self.assertEqual(last(add_check(0, []), item_kinds()), [1, 4])
        self.assertEqual(last(add_bars([]), item_kinds()), [1, 5])
        self.assertEqual(last(read_table(full_text(["h"])), item_kinds()), [1, 2])

    def test_after_each_change(self):
        self.assertEqual(last(*full_report(), item_kinds()), [12, 2, 0, 1, 3, 4, 5, 2, 0, 1, 3, 4, 5])
        self.assertEqual(kinds_after(*full_report(), remove_item(3)), [2, 0, 1, 4, 5, 2, 0, 1, 3, 4, 5])
        self.assertEqual(kinds_after(*full_report()[:6], move_item(0, 4)), [0, 1, 3, 4, 2, 5])
        self.assertEqual(kinds_after(*full_report()[:6], move_item(5, 1)), [2, 5, 0, 1, 3, 4])
        self.assertEqual(kinds_after(*full_report()[:6], sort_rows(0, 0, 1)), [2, 0, 1, 3, 4, 5])
        self.assertEqual(kinds_after(*full_report()[:6], select_columns(0, [0, 0])), [2, 0, 1, 3, 4, 5])
        self.assertEqual(kinds_after(*full_report()[:2], read_table(full_text(["h"]))), [2, 0, 2])


class TableCellsTest(CallTest):

    def test_ordinary_table(self):
        numbers = [1, 1, 110, 1, 4, 110, 97, 109, 101, 0, 5, 1, 1, 97, 0, -12, 1, 5, 98, 32, 124, 32, 99]
        self.assertEqual(last(add_table(2, numbers), table_cells(0)), [2, 2] + numbers)

    def test_no_rows_and_24_rows(self):
        self.assertEqual(last(table_of([""]), table_cells(0)), [1, 0, 1, 0])
        self.assertEqual(last(table_of(["", "\n"]), table_cells(0)), [2, 0, 1, 0, 1, 1, 10])
        self.assertEqual(last(table_of(["h"], *[[-5]] * 24), table_cells(0)), [1, 24, 1, 1, 104] + [0, -5] * 24)

    def test_every_column_is_shown(self):
        rows = [list("abcdefgh"), [1, "", -2, "x" * 200, "\n", HUGE, -HUGE, 0]]
        self.assertEqual(last(table_of(*rows), table_cells(0)), [8, 1] + cells(*join(rows)))

    def test_after_each_change(self):
        table = table_of(["n", "m"], [2, "x"], [1, "y"])
        self.assertEqual(table_after(table, sort_rows(0, 0, 0)), [["n", "m"], [1, "y"], [2, "x"]])
        self.assertEqual(table_after(table, select_columns(0, [1, 1])), [["m", "m"], ["x", "x"], ["y", "y"]])
        self.assertEqual(table_after(add_paragraph([]), table, remove_item(0)), [["n", "m"], [2, "x"], [1, "y"]])
        self.assertEqual(
            table_in(last(table, add_paragraph([]), move_item(0, 1), table_cells(1))), [["n", "m"], [2, "x"], [1, "y"]])
        self.assertEqual(table_in(last(table, read_table(full_text(["h"], [7])), table_cells(1))), [["h"], [7]])

    def test_errors_in_order(self):
        before = other_items() + [table_of(["h"])]
        for index in BELOW_ZERO + (6, 7, 12, HUGE):
            self.assert_refused(table_cells(index), -11, before)
        for index in (-1, 0, 1):
            self.assert_refused(table_cells(index), -11)
        for index in range(5):
            self.assert_refused(table_cells(index), -12, before)
        self.assertEqual(last(*before, table_cells(5)), [1, 0, 1, 1, 104])


class NothingIsChangedTest(CallTest):

    views = (
        item_kinds(), item_lines(0, 20), item_lines(1, 120), document_lines(20), document_lines(77), pages(20, 5),
        pages(120, 60), column_widths(0, 20), table_cells(0), item_lines(99, 20), item_lines(0, 19), document_lines(19),
        pages(20, 4), column_widths(1, 20), table_cells(1),
    )

    def test_calls_that_show_change_nothing(self):
        table = table_of(["x" * 200, "y"], [1, "z" * 50], [2, ""])
        for before in ([], full_report(), [table, add_heading(1, text("h"))]):
            state = state_after(*before)
            for view in self.views:
                self.assertEqual(state_after(*before, view), state)
                once, twice = ask(*before, view, view)[-2:]
                self.assertEqual(once, twice)
