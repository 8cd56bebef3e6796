"""add_table."""

from tests.helpers import BAD_ENCODINGS, HUGE, IN_A_TEXT, NOT_IN_A_TEXT, CallTest
from tests.helpers import add_heading, add_paragraph, add_table, cells, column_counts, kinds_after, last
from tests.helpers import table_after, table_cells, text


def headers(columns):
    return cells(*["h" + str(column) for column in range(columns)])


class AddTableTest(CallTest):

    def test_ordinary_table(self):
        call = add_table(2, cells("n", "name", 5, "a", -12, "b | c"))
        self.assert_adds(call)
        self.assertEqual(kinds_after(call), [2])
        self.assertEqual(table_after(call), [["n", "name"], [5, "a"], [-12, "b | c"]])

    def test_column_counts(self):
        for columns in range(1, 9):
            call = add_table(columns, headers(columns) + cells(*range(columns)))
            self.assert_adds(call)
            self.assertEqual(column_counts([call]), [columns])
        for columns in (-HUGE, -8, -1, 0, 9, 10, 25, HUGE):
            self.assert_refused(add_table(columns, headers(9)), -4)
            self.assert_refused(add_table(columns, headers(8)), -4)

    def test_row_counts(self):
        for columns in (1, 2, 3, 8):
            for rows in (0, 1, 23, 24):
                self.assert_adds(add_table(columns, headers(columns) + [0, 7] * (columns * rows)))
            for rows in (25, 26, 100):
                self.assert_refused(add_table(columns, headers(columns) + [0, 7] * (columns * rows)), -6)

    def test_rows_are_kept(self):
        for rows in (0, 1, 24):
            call = add_table(2, headers(2) + cells(*range(2 * rows)))
            expected = [["h0", "h1"]] + [[2 * row, 2 * row + 1] for row in range(rows)]
            self.assertEqual(table_after(call), expected)

    def test_cells_come_back_as_they_were_given(self):
        for columns, rows, numbers in (
            (1, 0, cells("h")), (2, 2, cells("", "\n", -HUGE, HUGE, "x" * 200, 0)), (8, 0, cells(*"abcdefgh")),
            (1, 24, cells("h") + cells("\"|~\\", 5) * 12),
        ):
            self.assertEqual(last(add_table(columns, numbers), table_cells(0)), [columns, rows] + numbers)

    def test_no_cells(self):
        for columns in (1, 2, 8):
            self.assert_refused(add_table(columns, []), -6)

    def test_cells_that_fill_no_row(self):
        for columns in range(2, 9):
            for more in range(1, columns):
                self.assert_refused(add_table(columns, headers(more)), -6)
                self.assert_refused(add_table(columns, headers(columns + more)), -6)
                self.assert_refused(add_table(columns, headers(columns) + [0, 7] * (23 * columns + more)), -6)
                self.assert_refused(add_table(columns, headers(columns) + [0, 7] * (24 * columns + more)), -6)

    def test_bad_encodings(self):
        for bad in BAD_ENCODINGS:
            self.assert_refused(add_table(1, bad), -5)
            self.assert_refused(add_table(1, cells("h", "a", 3) + bad), -5)
            self.assert_refused(add_table(1, cells("h") + bad), -5, [add_paragraph([])])

    def test_lengths_of_texts(self):
        for length in (0, 1, 199, 200):
            self.assert_adds(add_table(1, cells("x" * length, "y" * length)))
        for length in (201, 202, 1000):
            self.assert_refused(add_table(1, cells("x" * length)), -5)
            self.assert_refused(add_table(1, cells("h", "y" * length)), -5)

    def test_bytes_of_texts(self):
        for number in IN_A_TEXT:
            self.assert_adds(add_table(1, [1, 1, number]))
            self.assert_adds(add_table(1, cells("h") + [1, 2, 65, number]))
        for number in NOT_IN_A_TEXT:
            self.assert_refused(add_table(1, [1, 1, number]), -5)
            self.assert_refused(add_table(1, cells("h") + [1, 2, 65, number]), -5)

    def test_numbers_of_cells(self):
        for number in (-HUGE, -HUGE + 1, -1, 0, 1, 2, 9, 10, 127, HUGE - 1, HUGE):
            self.assert_adds(add_table(1, cells("h", number)))

    def test_header_that_is_a_number(self):
        self.assert_refused(add_table(1, cells(5)), -5)
        self.assert_refused(add_table(1, cells(0, "a")), -5)
        for columns in (2, 3, 8):
            for column in range(columns):
                values = ["h"] * columns
                values[column] = 1
                self.assert_refused(add_table(columns, cells(*values)), -5)
                self.assert_refused(add_table(columns, cells(*values) + headers(columns)), -5)

    def test_column_count_is_checked_before_cells(self):
        for columns in (0, 9):
            for numbers in ([], [2], [1, 201], cells(5), cells("h") * 10):
                self.assert_refused(add_table(columns, numbers), -4)

    def test_encoding_is_checked_before_cell_count(self):
        self.assert_refused(add_table(2, cells("h") + [2]), -5)
        self.assert_refused(add_table(1, cells("h") + [0, 7] * 25 + [1]), -5)
        self.assert_refused(add_table(1, cells("h") + [0, 7] * 25 + [0]), -5)

    def test_cell_count_is_checked_before_headers(self):
        self.assert_refused(add_table(2, cells(5)), -6)
        self.assert_refused(add_table(2, cells(5, "a", "b")), -6)
        self.assert_refused(add_table(1, cells(5) + [0, 7] * 25), -6)

    def test_full_report_is_checked_first(self):
        self.assert_full_first([
            add_table(1, cells("h")), add_table(0, cells("h")), add_table(1, [2]),
            add_table(1, []), add_table(1, cells(5)), add_table(9, [2]),
        ])

    def test_refused_behind_other_items(self):
        before = [add_table(1, cells("h", 1)), add_heading(1, text("x"))]
        self.assert_refused(add_table(0, cells("h")), -4, before)
        self.assert_refused(add_table(1, [5]), -5, before)
        self.assert_refused(add_table(1, []), -6, before)
        self.assert_refused(add_table(1, cells(5)), -5, before)
