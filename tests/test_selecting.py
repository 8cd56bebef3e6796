"""select_columns."""

import itertools

from tests.helpers import BELOW_ZERO, HUGE, CallTest
from tests.helpers import add_paragraph, ask, column_widths, full_text, items_after, last, other_items
from tests.helpers import read_table, remove_item, select_columns, sort_rows, table_after, table_of

ROWS = [["a", "b", "c"], [1, "x", -5], [2, "", HUGE], [3, "\n", 0]]


def selected(rows, columns):
    return [[row[column] for column in columns] for row in rows]


class SelectColumnsTest(CallTest):

    def assert_selected(self, rows, columns):
        call = select_columns(0, columns)
        self.assertEqual(ask(table_of(*rows), call), [[0], [0]])
        self.assertEqual(table_after(table_of(*rows), call), selected(rows, columns))

    def test_ordinary_selections(self):
        for columns in ([0], [1], [2], [0, 1], [2, 0], [0, 1, 2], [2, 1, 0]):
            self.assert_selected(ROWS, columns)

    def test_a_column_several_times(self):
        for columns in ([0, 0], [1, 1, 1], [2, 0, 2], [0] * 8, [2, 1] * 4, [0, 1, 2, 0, 1, 2, 0]):
            self.assert_selected(ROWS, columns)

    def test_every_selection_of_two_columns(self):
        for count in range(1, 5):
            for columns in itertools.product((0, 1), repeat=count):
                self.assert_selected([["g", "h"], [1, 2]], list(columns))

    def test_1_and_8_columns(self):
        rows = [list("abcdefgh"), list(range(8)), list(range(8, 16))]
        self.assert_selected(rows, list(range(8)))
        self.assert_selected(rows, list(range(7, -1, -1)))
        self.assert_selected(rows, [7] * 8)
        for column in range(8):
            self.assert_selected(rows, [column])
            self.assert_selected([["h"], [1], ["x"]], [0] * (column + 1))

    def test_0_and_24_rows(self):
        self.assert_selected([["a", "b"]], [1, 0, 1])
        self.assert_selected([["a", "b"]] + [[row, 24 - row] for row in range(24)], [1, 1, 0])

    def test_selection_of_a_selection(self):
        for first, second in (
            ([2, 0], [1]), ([2, 0], [1, 0]), ([1] * 8, [7]), ([0, 1, 2, 0], [3, 3, 2]), ([0], [0] * 8),
            ([2, 1, 0], [2, 1, 0]),
        ):
            both = [first[column] for column in second]
            self.assertEqual(
                items_after(table_of(*ROWS), select_columns(0, first), select_columns(0, second)),
                items_after(table_of(*ROWS), select_columns(0, both)))
            self.assertEqual(
                table_after(table_of(*ROWS), select_columns(0, first), select_columns(0, second)), selected(ROWS, both))

    def test_columns_of_the_table_as_it_is_now(self):
        before = [table_of(*ROWS), select_columns(0, [0])]
        self.assert_refused(select_columns(0, [1]), -13, before)
        self.assertEqual(last(*before, select_columns(0, [0] * 8), select_columns(0, [7])), [0])

    def test_sorting_a_selection(self):
        calls = [table_of(*ROWS), select_columns(0, [2, 2, 0])]
        by_last_column = [ROWS[0], ROWS[1], ROWS[3], ROWS[2]]
        from_the_last_row = [ROWS[0], ROWS[3], ROWS[2], ROWS[1]]
        self.assertEqual(table_after(*calls, sort_rows(0, 0, 0)), selected(by_last_column, [2, 2, 0]))
        self.assertEqual(table_after(*calls, sort_rows(0, 2, 1)), selected(from_the_last_row, [2, 2, 0]))
        self.assert_refused(sort_rows(0, 3, 0), -13, calls)

    def test_layout_of_a_selection(self):
        table = table_of(["a", "long"], [123, "x"])
        self.assertEqual(last(table, select_columns(0, [1, 0, 1]), column_widths(0, 40)), [3, 4, 3, 4])

    def test_only_the_table_named(self):
        before = [table_of(*ROWS), add_paragraph([]), table_of(*ROWS), table_of(*ROWS)]
        views = items_after(*before)
        views[2] = items_after(table_of(*selected(ROWS, [1])))[0]
        self.assertEqual(items_after(*before, select_columns(2, [1])), views)

    def test_numbers_beyond_the_range_of_calls(self):
        rows = [["a", "b"], [10 ** 30 - 1, "x"], [-10 ** 30 + 1, HUGE + 1]]
        table = read_table(full_text(*rows))
        for columns in ([0], [1, 0], [0, 0, 1]):
            self.assertEqual(table_after(table, select_columns(0, columns)), selected(rows, columns))

    def test_second_table_is_not_changed_with_the_first(self):
        calls = [table_of(*ROWS), table_of(*ROWS), select_columns(0, [1]), sort_rows(0, 0, 1)]
        self.assertEqual(table_after(*calls, remove_item(0)), ROWS)


class SelectColumnsErrorsTest(CallTest):

    table = table_of(["g", "h"], [1, 2])

    def test_no_such_item(self):
        for index in BELOW_ZERO + (6, 12, HUGE):
            for columns in ([0], [], [5], [0] * 9):
                self.assert_refused(select_columns(index, columns), -11, [self.table] + other_items())
        self.assert_refused(select_columns(0, [0]), -11)

    def test_not_a_table(self):
        for index in range(5):
            for columns in ([0], [], [5], [0] * 9, [-1] * 9):
                self.assert_refused(select_columns(index, columns), -12, other_items())

    def test_counts_of_columns(self):
        for columns in ([], [0] * 9, [0] * 10, [0, 1] * 5, [0] * 100):
            self.assert_refused(select_columns(0, columns), -4, [self.table])

    def test_count_is_checked_before_columns(self):
        for columns in ([5] * 9, [-1] * 9, [0] * 8 + [2], [HUGE] * 100):
            self.assert_refused(select_columns(0, columns), -4, [self.table])

    def test_no_such_column(self):
        for column in BELOW_ZERO + (2, 3, 8, HUGE):
            for columns in ([column], [column, 0], [0, column], [0, 1, column, 1], [1] * 7 + [column]):
                self.assert_refused(select_columns(0, columns), -13, [self.table])
        eight = table_of(list("abcdefgh"))
        self.assertEqual(ask(eight, select_columns(0, [7])), [[0], [0]])
        for column in (-1, 8):
            self.assert_refused(select_columns(0, [7, column]), -13, [eight])
        for column in (-1, 1):
            self.assert_refused(select_columns(0, [column]), -13, [table_of(["h"], [1])])
