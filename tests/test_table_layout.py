"""Layout of tables, and column_widths."""

from tests.helpers import BELOW_ZERO, HUGE, NO_WIDTHS, CallTest
from tests.helpers import add_paragraph, add_table, ask, column_widths, full_text, item_lines, laid_out, last
from tests.helpers import other_items, read_table, table_of

VISIBLE = {20: 3, 25: 4, 26: 4, 49: 8, 120: 19}


def widths_of(call, width):
    answer = last(call, column_widths(0, width))
    assert answer[0] == len(answer) - 1, answer
    return answer[1:]


def headers_of(*lengths):
    """The call that adds a table without rows, whose columns have these natural widths."""
    return table_of(["x" * length for length in lengths])


class VisibleColumnsTest(CallTest):

    def test_counts_of_visible_columns(self):
        for width, most in VISIBLE.items():
            for columns in range(1, 9):
                for length in (1, 3, 200):
                    call = headers_of(*[length] * columns)
                    self.assertEqual(len(widths_of(call, width)), min(columns, most))
                    lines = laid_out(call, width)
                    self.assertEqual(lines[0].count("+"), min(columns, most) + 1)
                    self.assertEqual(lines[1].count("|"), min(columns, most) + 1)
                    if columns > most:
                        self.assertEqual(lines[4:], ["(+" + str(columns - most) + ")"])
                    else:
                        self.assertEqual(len(lines), 4)

    def test_widths_at_which_one_more_column_is_visible(self):
        for count in range(4, 9):
            call = headers_of(*[1] * 8)
            self.assertEqual(len(widths_of(call, 6 * count)), count - 1)
            self.assertEqual(len(widths_of(call, 6 * count + 1)), count)

    def test_hidden_columns_do_not_count(self):
        self.assertEqual(laid_out(table_of(["a", "b", "c", "x" * 200], [1, 2, 3, "y" * 200]), 20), [
            "+---+---+---+",
            "| a | b | c |",
            "+---+---+---+",
            "| 1 | 2 | 3 |",
            "+---+---+---+",
            "(+1)",
        ])

    def test_every_column_at_width_49(self):
        lines = laid_out(table_of(list("abcdefgh"), [100] * 8), 49)
        self.assertEqual(lines[1], "| a   | b   | c   | d   | e   | f   | g   | h   |")
        self.assertEqual(lines[3], "| 100 | 100 | 100 | 100 | 100 | 100 | 100 | 100 |")
        self.assertEqual(len(lines), 5)


class ColumnWidthsTest(CallTest):

    def test_natural_widths(self):
        self.assertEqual(widths_of(table_of(["n", "name"], [5, "a"], [-12, "b | c"]), 20), [3, 8])
        self.assertEqual(widths_of(table_of(["", "a", "10"]), 40), [2, 1, 4])
        self.assertEqual(widths_of(table_of(["a", "long"], ["long", "a"], ["c", "d"]), 40), [4, 4])

    def test_columns_that_fit_exactly(self):
        self.assertEqual(widths_of(headers_of(16), 20), [16])
        self.assertEqual(widths_of(headers_of(116), 120), [116])
        self.assertEqual(widths_of(headers_of(6, 7), 20), [6, 7])
        self.assertEqual(widths_of(headers_of(1, 1, 8), 20), [1, 1, 8])
        self.assertEqual(widths_of(headers_of(1, 2, 3, 4, 5, 6, 7, 67), 120), [1, 2, 3, 4, 5, 6, 7, 67])

    def test_columns_by_1_too_wide(self):
        self.assertEqual(widths_of(headers_of(17), 20), [16])
        self.assertEqual(widths_of(headers_of(117), 120), [116])
        self.assertEqual(widths_of(headers_of(7, 7), 20), [6, 7])
        self.assertEqual(widths_of(headers_of(6, 8), 20), [6, 7])
        self.assertEqual(widths_of(headers_of(8, 6), 20), [7, 6])
        self.assertEqual(widths_of(headers_of(5, 5, 1), 20), [4, 5, 1])
        self.assertEqual(widths_of(headers_of(1, 5, 5), 20), [1, 4, 5])
        self.assertEqual(widths_of(headers_of(4, 4, 4, 1), 25), [3, 4, 4, 1])
        self.assertEqual(widths_of(headers_of(12, 12, 12, 12, 12, 12, 12, 12), 120), [11] + [12] * 7)

    def test_first_of_the_widest_is_narrowed_first(self):
        call = headers_of(*[10] * 8)
        for too_wide in range(9):
            self.assertEqual(widths_of(call, 105 - too_wide), [9] * too_wide + [10] * (8 - too_wide))
        self.assertEqual(widths_of(call, 96), [8] + [9] * 7)

    def test_columns_far_too_wide(self):
        self.assertEqual(widths_of(headers_of(200), 20), [16])
        self.assertEqual(widths_of(headers_of(200, 200), 20), [6, 7])
        self.assertEqual(widths_of(headers_of(200, 1, 200), 20), [4, 1, 5])
        self.assertEqual(widths_of(headers_of(200, 100, 50, 3), 25), [3, 3, 3, 3])
        self.assertEqual(widths_of(headers_of(200, 100, 50, 3), 26), [3, 3, 4, 3])
        self.assertEqual(widths_of(headers_of(200, 100, 50, 3), 27), [3, 4, 4, 3])
        self.assertEqual(widths_of(headers_of(200, 100, 50, 3), 28), [4, 4, 4, 3])
        self.assertEqual(widths_of(headers_of(*[200] * 8), 49), [3] * 8)
        self.assertEqual(widths_of(headers_of(*[200] * 8), 120), [11] + [12] * 7)
        self.assertEqual(widths_of(table_of(["|" * 200], ["~" * 200]), 120), [116])

    def test_columns_narrower_than_3_stay(self):
        self.assertEqual(widths_of(headers_of(1, 200, 2), 20), [1, 7, 2])
        self.assertEqual(widths_of(headers_of(2, 2, 200), 20), [2, 2, 6])

    def test_narrowed_columns_are_among_the_widest(self):
        for lengths in ((5, 9, 30, 2), (40, 40, 1, 40), (10, 20, 30, 40, 50, 60, 70, 80), (3, 3, 3, 200), (200,)):
            for width in range(20, 121):
                natural = list(lengths)[:(width - 1) // 6]
                widths = widths_of(headers_of(*lengths), width)
                self.assertEqual(len(widths), len(natural))
                self.assertLessEqual(sum(widths) + 3 * len(widths) + 1, width)
                for own, whole in zip(widths, natural):
                    self.assertLessEqual(own, whole)
                    if own < whole:
                        self.assertGreaterEqual(own, 3)
                        self.assertIn(own, (max(widths), max(widths) - 1))
                if widths != natural:
                    self.assertEqual(sum(widths) + 3 * len(widths) + 1, width)

    def test_errors_in_order(self):
        table = table_of(["h"], [1])
        for index in BELOW_ZERO + (2, 12, HUGE):
            for width in (20, 19, HUGE):
                self.assert_refused(column_widths(index, width), -11, [table, add_paragraph([])])
        self.assert_refused(column_widths(0, 20), -11)
        for width in NO_WIDTHS:
            self.assert_refused(column_widths(0, width), -14, [table])
            for index in range(5):
                self.assert_refused(column_widths(index, width), -14, other_items())
        for index in range(5):
            for width in (20, 120):
                self.assert_refused(column_widths(index, width), -12, other_items())
        self.assertEqual(ask(table, column_widths(0, 20), column_widths(0, 120)), [[0], [1, 1], [1, 1]])


class TableLinesTest(CallTest):

    def test_example_of_the_document(self):
        call = add_table(2, [1, 1, 110, 1, 4, 110, 97, 109, 101, 0, 5, 1, 1, 97, 0, -12, 1, 5, 98, 32, 124, 32, 99])
        self.assertEqual(laid_out(call, 40), [
            "+-----+----------+",
            "| n   | name     |",
            "+-----+----------+",
            "|   5 | a        |",
            '| -12 | "b \\p c" |',
            "+-----+----------+",
        ])

    def test_no_rows(self):
        self.assertEqual(laid_out(table_of(["h", ""]), 20), ["+---+----+", '| h | "" |', "+---+----+", "+---+----+"])

    def test_24_rows(self):
        rows = [[number, "r" + str(number)] for number in range(24)]
        lines = laid_out(table_of(["n", "row"], *rows), 20)
        self.assertEqual(len(lines), 28)
        self.assertEqual(lines[3:-1], [f"| {number:2} | {'r' + str(number):3} |" for number in range(24)])

    def test_truncation(self):
        self.assertEqual(laid_out(table_of(["header", "b" * 20], [123456789, ' "q" '], [-5, "a"]), 20), [
            "+--------+---------+",
            "| header | bbbbbb~ |",
            "+--------+---------+",
            '| 12345~ | " \\"q\\~ |',
            "|     -5 | a       |",
            "+--------+---------+",
        ])

    def test_truncation_by_one_byte(self):
        self.assertEqual(laid_out(table_of(["x" * 17], ["y" * 16], [10 ** 16], [10 ** 15], ["7" * 15]), 20)[1:-1], [
            "| " + "x" * 15 + "~ |",
            "+" + "-" * 18 + "+",
            "| " + "y" * 16 + " |",
            "| 100000000000000~ |",
            "| 1000000000000000 |",
            '| "77777777777777~ |',
        ])

    def test_truncation_to_width_3(self):
        call = table_of(list("abc"), [1234, -1000, 100], ["abcd", "abc", ""], ["|", "~~", "\n"])
        self.assertEqual(laid_out(call, 20), [
            "+-----+-----+------+",
            "| a   | b   | c    |",
            "+-----+-----+------+",
            "| 12~ | -1~ |  100 |",
            '| ab~ | abc | ""   |',
            '| "\\~ | "\\~ | "\\n" |',
            "+-----+-----+------+",
        ])

    def test_tables_at_their_natural_widths_are_their_full_texts(self):
        for rows in (
            [["h"]], [["h"], [1]], [["a", "b"], [1, "|"], ["", -5]],
            [list("abcdefgh"), list(range(8)), list("ABCDEFGH")],
        ):
            for width in (49, 120):
                self.assertEqual("\n".join(laid_out(table_of(*rows), width)), full_text(*rows))

    def test_numbers_beyond_the_range_of_calls(self):
        greatest = 10 ** 30 - 1
        call = read_table(full_text(["n", "m"], [greatest, 1], [-greatest, 2], [HUGE * 10, 3]))
        self.assertEqual(laid_out(call, 120)[3:-1], [
            "|  " + "9" * 30 + " | 1 |", "| -" + "9" * 30 + " | 2 |", "|            10000000000000000000 | 3 |",
        ])
        self.assertEqual(
            laid_out(call, 20)[3:-1], ["| 99999999999~ | 1 |", "| -9999999999~ | 2 |", "| 10000000000~ | 3 |"])

    def test_no_line_is_longer_than_the_width(self):
        values = ["", "x" * 200, "\n" * 200, 10 ** 18, -10 ** 18, "7" * 200, 0, "a b"]
        rows = [[str(value) for value in values]] + [values[step:] + values[:step] for step in range(8)]
        for columns in range(1, 9):
            call = table_of(*[row[:columns] for row in rows])
            for width in range(20, 121):
                lines = laid_out(call, width)
                self.assertLessEqual(max(map(len, lines)), width)
                self.assertEqual(len(set(map(len, lines[:12]))), 1)

    def test_second_table_of_a_report(self):
        first = table_of(["a"], [1])
        second = table_of(["b"], [2])
        for width in (20, 120):
            self.assertEqual(
                ask(first, second, item_lines(0, width), item_lines(1, width))[2:],
                [last(first, item_lines(0, width)), last(second, item_lines(0, width))])

    def test_errors_of_item_lines_in_order(self):
        for index in BELOW_ZERO + (6, 12, HUGE):
            for width in (20, 19, HUGE):
                self.assert_refused(item_lines(index, width), -11, [table_of(["h"])] + other_items())
        self.assert_refused(item_lines(0, 20), -11)
        for width in NO_WIDTHS:
            for index in range(6):
                self.assert_refused(item_lines(index, width), -14, [table_of(["h"])] + other_items())
