"""sort_rows and the order of cells."""

import itertools

from tests.helpers import BELOW_ZERO, HUGE, CallTest
from tests.helpers import add_bars, add_check, add_heading, add_paragraph, add_plot, add_table, ask, cells
from tests.helpers import full_text, items_after, join, last, read_table, sort_rows, table_after, text

# In ascending order, with none equal to another.
IN_ORDER = (
    -HUGE, -HUGE + 1, -12, -2, -1, 0, 1, 2, 9, 10, 11, 100, HUGE - 1, HUGE,
    "", "\n", " ", "-1", "1", "10", "9", "B", "a", "a\n", "a ", "aa", "ab", "b", "~", "~~",
)


def rows_after(columns, rows, *calls):
    """The rows of a table, as the call add_table gives it, after further calls."""
    headers = ["z", "y", "x", "w", "v", "u", "t", "s"][:columns]
    given = (add_table(columns, cells(*headers, *join(rows))),) + calls
    assert ask(*given) == [[0]] * len(given), given
    seen = table_after(*given)
    assert seen[0] == headers, seen
    return seen[1:]


class OrderTest(CallTest):

    def assert_sorted(self, values, in_order):
        rows = [[value] for value in values]
        up = [[value] for value in in_order]
        self.assertEqual(rows_after(1, rows, sort_rows(0, 0, 0)), up)
        self.assertEqual(rows_after(1, rows, sort_rows(0, 0, 1)), up[::-1])

    def test_each_pair(self):
        for first, second in itertools.combinations(IN_ORDER, 2):
            self.assert_sorted([first, second], [first, second])
            self.assert_sorted([second, first], [first, second])

    def test_each_order_of_five(self):
        in_order = [-10, -9, 2, "1", "a"]
        for values in itertools.permutations(in_order):
            self.assert_sorted(list(values), in_order)

    def test_24_rows(self):
        for start in (0, len(IN_ORDER) - 24):
            in_order = list(IN_ORDER[start:start + 24])
            for step in (1, 5, 7, 11, 13, 23):
                self.assert_sorted([in_order[place * step % 24] for place in range(24)], in_order)

    def test_numbers_by_value_not_by_notation(self):
        self.assert_sorted([10, 9, -10, -9, 100], [-10, -9, 9, 10, 100])

    def test_texts_of_digits_are_texts(self):
        self.assert_sorted(["5", 7, "10", 6], [6, 7, "10", "5"])

    def test_prefixes(self):
        long = "a" * 200
        self.assert_sorted([long, "a" * 199, "a", "b", ""], ["", "a", "a" * 199, long, "b"])

    def test_few_rows(self):
        self.assert_sorted([], [])
        self.assert_sorted([5], [5])

    def test_numbers_beyond_the_range_of_calls(self):
        in_order = [-10 ** 30 + 1, -10 ** 30 + 2, -HUGE - 1, -HUGE, 0, HUGE, HUGE + 1, 10 ** 30 - 2, 10 ** 30 - 1, ""]
        for step in (1, 3, 7, 9):
            values = [[in_order[place * step % 10]] for place in range(10)]
            table = read_table(full_text(["h"], *values))
            expected = [[value] for value in in_order]
            self.assertEqual(table_after(table, sort_rows(0, 0, 0)), [["h"]] + expected)
            self.assertEqual(table_after(table, sort_rows(0, 0, 1)), [["h"]] + expected[::-1])


class SortRowsTest(CallTest):

    def test_rows_stay_whole(self):
        rows = [[3, "c", 1], [1, "a", 2], [2, "b", 3]]
        self.assertEqual(rows_after(3, rows, sort_rows(0, 0, 0)), [[1, "a", 2], [2, "b", 3], [3, "c", 1]])
        self.assertEqual(rows_after(3, rows, sort_rows(0, 1, 1)), [[3, "c", 1], [2, "b", 3], [1, "a", 2]])
        self.assertEqual(rows_after(3, rows, sort_rows(0, 2, 0)), rows)

    def test_each_column_of_eight(self):
        rows = [[(number * step) % 11 for step in range(1, 9)] for number in range(1, 11)]
        for column in range(8):
            for descending in (0, 1):
                expected = [
                    row for value in range(1, 11) for row in rows if row[column] == value]
                if descending == 1:
                    expected.reverse()
                self.assertEqual(rows_after(8, rows, sort_rows(0, column, descending)), expected)

    def test_stable_both_ways(self):
        rows = [["b", 1], ["a", 2], ["b", 3], [7, 4], ["a", 5], [7, 6], ["b", 7], ["a", 8]]
        self.assertEqual(
            rows_after(2, rows, sort_rows(0, 0, 0)),
            [[7, 4], [7, 6], ["a", 2], ["a", 5], ["a", 8], ["b", 1], ["b", 3], ["b", 7]])
        self.assertEqual(
            rows_after(2, rows, sort_rows(0, 0, 1)),
            [["b", 1], ["b", 3], ["b", 7], ["a", 2], ["a", 5], ["a", 8], [7, 4], [7, 6]])

    def test_stable_with_24_rows(self):
        rows = [[number * 7 % 3, 24 - number] for number in range(24)]
        for descending in (0, 1):
            values = [0, 1, 2] if descending == 0 else [2, 1, 0]
            expected = [row for value in values for row in rows if row[0] == value]
            self.assertEqual(rows_after(2, rows, sort_rows(0, 0, descending)), expected)

    def test_equal_rows_are_all_kept(self):
        rows = [[1, "x"], [0, "x"], [1, "x"], [1, "x"]]
        self.assertEqual(rows_after(2, rows, sort_rows(0, 0, 0)), [rows[1], rows[0], rows[0], rows[0]])
        for descending in (0, 1):
            self.assertEqual(rows_after(2, rows, sort_rows(0, 1, descending)), rows)

    def test_by_one_column_after_another(self):
        rows = [[1, "b"], [2, "a"], [1, "a"], [2, "b"]]
        self.assertEqual(
            rows_after(2, rows, sort_rows(0, 1, 0), sort_rows(0, 0, 1)), [[2, "a"], [2, "b"], [1, "a"], [1, "b"]])

    def test_sorted_again(self):
        rows = [[2], ["a"], [1]]
        self.assertEqual(rows_after(1, rows, sort_rows(0, 0, 0), sort_rows(0, 0, 1)), [["a"], [2], [1]])
        self.assertEqual(rows_after(1, rows, sort_rows(0, 0, 0), sort_rows(0, 0, 0)), [[1], [2], ["a"]])

    def test_only_the_table_named(self):
        table = add_table(1, cells("h", 2, 1))
        before = [table, add_paragraph(text("p")), table, table]
        views = items_after(*before)
        views[2] = items_after(add_table(1, cells("h", 1, 2)))[0]
        self.assertEqual(items_after(*before, sort_rows(2, 0, 0)), views)

    def test_table_without_rows(self):
        for columns in (1, 8):
            self.assertEqual(rows_after(columns, [], sort_rows(0, columns - 1, 1)), [])


class SortRowsErrorsTest(CallTest):

    two_tables = (add_table(2, cells("g", "h", 2, 1, 1, 2)), add_table(1, cells("h", 2, 1)))
    other_items = (
        add_heading(1, text("h")), add_paragraph(text("p")), add_plot(3, [1, 2]),
        add_check(1, text("c")), add_bars(cells("b", 1)),
    )

    def test_no_such_item(self):
        for index in BELOW_ZERO + (2, 3, 12, HUGE):
            self.assert_refused(sort_rows(index, 0, 0), -11, self.two_tables)
        for index in (-1, 0, 1):
            self.assert_refused(sort_rows(index, 0, 0), -11)

    def test_not_a_table(self):
        for index in range(5):
            self.assert_refused(sort_rows(index, 0, 0), -12, self.other_items)

    def test_no_such_column(self):
        for column in BELOW_ZERO + (2, 3, 8, HUGE):
            self.assert_refused(sort_rows(0, column, 0), -13, self.two_tables)
        for column in BELOW_ZERO + (1, 2, HUGE):
            self.assert_refused(sort_rows(1, column, 1), -13, self.two_tables)
        eight = [add_table(8, cells("h") * 8)]
        self.assertEqual(last(*eight, sort_rows(0, 7, 0)), [0])
        self.assert_refused(sort_rows(0, 8, 0), -13, eight)
        self.assert_refused(sort_rows(0, -1, 0), -13, eight)

    def test_neither_ascending_nor_descending(self):
        for descending in (-HUGE, -2, -1, 2, 3, HUGE):
            for index in (0, 1):
                self.assert_refused(sort_rows(index, 0, descending), -10, self.two_tables)

    def test_order_of_the_errors(self):
        self.assert_refused(sort_rows(2, 5, 2), -11, self.two_tables)
        self.assert_refused(sort_rows(-1, 0, 2), -11, self.two_tables)
        self.assert_refused(sort_rows(0, -1, 0), -12, self.other_items)
        self.assert_refused(sort_rows(0, 5, 2), -12, self.other_items)
        self.assert_refused(sort_rows(0, 0, 2), -12, self.other_items)
        self.assert_refused(sort_rows(0, 2, 2), -13, self.two_tables)
        self.assert_refused(sort_rows(1, -1, -1), -13, self.two_tables)

    def test_first_and_last_column(self):
        calls = self.two_tables + (sort_rows(0, 0, 0), sort_rows(0, 1, 1), sort_rows(1, 0, 1))
        self.assertEqual(ask(*calls), [[0], [1], [0], [0], [0]])
