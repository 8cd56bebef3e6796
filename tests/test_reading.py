"""read_table."""

import random

from tests.helpers import HUGE, CallTest
from tests.helpers import ask, cells, full_report, full_text, item_kinds, item_lines, laid_out, last, printed
from tests.helpers import add_paragraph, read_table, remove_item, select_columns, sort_rows, table_after
from tests.helpers import table_cells, table_of, with_list
from tests.test_printed_forms import FORMS, LONG_FORMS

GREATEST_CELL = 10 ** 30 - 1

WHOLE = "+---+\n| x |\n+---+\n| 1 |\n+---+"
TWO = """\
+-----+----------+
| n   | "b \\p c" |
+-----+----------+
| -12 | ""       |
| x   |        5 |
+-----+----------+"""

# Tables, their headers first, as read_table and add_table give them.
TABLES = [
    [["h"]], [[""]], [["x"], [1]], [["n", "b | c"], [-12, ""], ["x", 5]],
    [list("abcdefgh"), list(range(8)), list("ABCDEFGH")], [[""] * 8, [""] * 8, [0] * 8],
    [["h", "g"]] + [[number, "r" + str(number)] for number in range(24)], [[" " * 3]] + [[""]] * 24,
    [["\n" * 200], ["|" * 200], ['"' * 200]], [["x" * 200, "~" * 200], ["\\" * 200, "7" * 200], [HUGE, -HUGE]],
    [["0" * 200], ["-" + "1" * 199]], [["a", "a"], ["1", 1], [2, "2"]],
    [[words for words, form in FORMS[start:start + 8]] for start in range(0, 8 * (len(FORMS) // 8), 8)],
]

TABLES_OF_GREAT_NUMBERS = [
    [["h"], [GREATEST_CELL], [-GREATEST_CELL]], [["h", "g"], [10 ** 29, "9" * 30], [-10 ** 29, "9" * 31]],
    [["h"], [HUGE + 1], [-HUGE - 1], [HUGE], [-HUGE], [HUGE * 10], ["1" * 200]],
]


class ReadTest(CallTest):

    def assert_read(self, words, rows):
        call = read_table(words)
        self.assertEqual(ask(call), [[0]], words)
        self.assertEqual(table_after(call), rows)

    def test_example_of_the_document(self):
        self.assert_read(WHOLE, [["x"], [1]])
        self.assertEqual(ask(read_table(WHOLE), table_cells(0), read_table("| x |"), item_lines(0, 19)), [
            [0], [1, 1, 1, 1, 120, 0, 1], [-16], [-14]])

    def test_table_written_out(self):
        self.assert_read(TWO, [["n", "b | c"], [-12, ""], ["x", 5]])
        self.assert_adds(read_table(TWO))

    def test_full_texts_are_read_without_any_difference(self):
        for rows in TABLES + TABLES_OF_GREAT_NUMBERS:
            self.assert_read(full_text(*rows), rows)

    def test_what_is_read_is_what_was_added(self):
        for rows in TABLES:
            views = [table_cells(0), item_lines(0, 20), item_lines(0, 120)]
            self.assertEqual(ask(read_table(full_text(*rows)), *views), ask(table_of(*rows), *views))

    def test_tables_laid_out_at_their_natural_widths_are_read_back(self):
        for rows in TABLES:
            whole = full_text(*rows)
            if len(whole.split("\n")[0]) <= 120 and len(rows[0]) <= 8:
                self.assertEqual("\n".join(laid_out(table_of(*rows), 120)), whole)

    def test_each_printed_form(self):
        for words, form in FORMS + LONG_FORMS:
            self.assertEqual(printed(words), form)
            self.assert_read(full_text([words]), [[words]])
            self.assert_read(full_text(["h", words], [words, 7]), [["h", words], [words, 7]])

    def test_numbers(self):
        for number in (0, 1, -1, 9, 10, 99, 100, HUGE - 1, HUGE, HUGE + 1, 10 ** 29 - 1, 10 ** 29, GREATEST_CELL):
            for value in (number, -number):
                self.assert_read(full_text(["h"], [value]), [["h"], [value]])

    def test_8_columns_and_24_rows(self):
        rows = [["h" + str(column) for column in range(8)]]
        rows += [[100 * row + column if column % 2 else "c" + str(column) for column in range(8)] for row in range(24)]
        self.assert_read(full_text(*rows), rows)

    def test_indices(self):
        self.assertEqual(ask(add_paragraph([]), read_table(WHOLE), read_table(TWO), item_kinds()), [
            [0], [1], [2], [3, 1, 2, 2]])
        calls = full_report()[:11] + [read_table(WHOLE), read_table(WHOLE), remove_item(0), read_table(WHOLE)]
        self.assertEqual(ask(*calls)[11:], [[11], [-1], [0], [11]])

    def test_drawn_tables(self):
        drawn = random.Random(4)
        for number in range(150):
            columns = drawn.randint(1, 8)
            rows = [[self.drawn_text(drawn) for column in range(columns)]]
            for row in range(drawn.choice((0, 1, 3, 24))):
                rows.append([drawn.randint(-10 ** drawn.randint(0, 29), 10 ** drawn.randint(0, 29))
                             if drawn.random() < 0.5 else self.drawn_text(drawn) for column in range(columns)])
            whole = full_text(*rows)
            if len(whole) <= 16998:
                self.assert_read(whole, rows)

    def drawn_text(self, drawn):
        signs = drawn.choice(("ab ", "\n\"\\|~ ntp", "0123-", "-0"))
        return "".join(drawn.choice(signs) for number in range(drawn.choice((0, 1, 2, 3, 20))))


class GreatNumbersTest(CallTest):

    def test_in_every_call_that_shows_or_changes_a_table(self):
        rows = [["h", "g"], [GREATEST_CELL, 1], [-GREATEST_CELL, 2], [HUGE + 1, 3], [5, 4]]
        table = read_table(full_text(*rows))
        self.assertEqual(last(table, table_cells(0)), [2, 4] + cells(*[value for row in rows for value in row]))
        in_order = [["h", "g"], [-GREATEST_CELL, 2], [5, 4], [HUGE + 1, 3], [GREATEST_CELL, 1]]
        self.assertEqual(table_after(table, sort_rows(0, 0, 0)), in_order)
        self.assertEqual(table_after(table, sort_rows(0, 0, 1)), in_order[:1] + in_order[:0:-1])
        self.assertEqual(table_after(table, select_columns(0, [0])), [row[:1] for row in rows])
        self.assertEqual("\n".join(laid_out(table, 120)), full_text(*rows))


class RefusedTest(CallTest):

    def assert_not_read(self, words):
        self.assertEqual(ask(read_table(words), item_kinds()), [[-16], [0]], words)

    def test_no_table(self):
        for words in ("", "x", "\n", "\n\n\n", "| x |", "+---+", "+---+\n| x |\n+---+", "+---+\n+---+\n+---+\n+---+",
                      "+\n|\n+\n+", "+\n\n+\n+", "||\n||\n||\n||", "|||||\n|||||\n|||||\n|||||", "(+1)"):
            self.assert_not_read(words)

    def test_line_feeds_too_many_or_too_few(self):
        for whole in (WHOLE, TWO):
            for words in (
                whole + "\n", "\n" + whole, whole + "\n\n", whole.replace("\n", "\n\n"), whole.replace("\n", " "),
            ):
                self.assert_not_read(words)

    def test_missing_or_doubled_lines(self):
        for whole in (WHOLE, TWO):
            lines = whole.split("\n")
            rows = range(3, len(lines) - 1)
            for place in range(len(lines)):
                if place not in rows:
                    self.assert_not_read("\n".join(lines[:place] + lines[place + 1:]))
                    self.assert_not_read("\n".join(lines[:place] + [lines[place]] + lines[place:]))

    def test_line_of_hidden_columns(self):
        self.assert_not_read(WHOLE + "\n(+1)")

    def test_spaces_too_many_or_too_few(self):
        for line in ("|  x |", "| x  |", "|x |", "| x|", " | x |", "| x | ", "|x|", "|x  |", "|  x|"):
            self.assert_not_read(WHOLE.replace("| x |", line))
            self.assert_not_read(WHOLE.replace("| 1 |", line.replace("x", "1")))
        for old, new in (
            ("| x   |", "|   x |"), ("        5 |", "5         |"), ("| -12 ", "|-12  "), ("| x   |", "|  x  |"),
        ):
            self.assertIn(old, TWO)
            self.assert_not_read(TWO.replace(old, new))

    def test_wider_and_narrower_rulers(self):
        for place in (0, 2, 4):
            for ruler in (
                "+--+", "+----+", "+-+", "+---+-+", "++---+", "+---", "---+", "-----", "+---+ ", "+ - +", "+++++", "",
            ):
                lines = WHOLE.split("\n")
                lines[place] = ruler
                self.assert_not_read("\n".join(lines))
        self.assert_not_read("+----+\n| x  |\n+----+\n|  1 |\n+----+")
        self.assert_not_read("+--+\n| x|\n+--+\n| 1|\n+--+")

    def test_texts_and_numbers_aligned_like_the_other(self):
        for cell in ("-0", "007", "-", "00", "+1", "a"):
            right = "+------+\n| long |\n+------+\n| " + cell.ljust(4) + " |\n+------+"
            self.assertEqual(table_after(read_table(right)), [["long"], [cell]])
            self.assert_not_read("+------+\n| long |\n+------+\n| " + cell.rjust(4) + " |\n+------+")
        for cell in ("0", "7", "-1", "100"):
            right = "+------+\n| long |\n+------+\n| " + cell.rjust(4) + " |\n+------+"
            self.assertEqual(table_after(read_table(right)), [["long"], [int(cell)]])
            self.assert_not_read("+------+\n| long |\n+------+\n| " + cell.ljust(4) + " |\n+------+")

    def one_cell(self, form):
        ruler = "+" + "-" * (len(form) + 2) + "+"
        return "\n".join([ruler, "| " + "h".ljust(len(form)) + " |", ruler, "| " + form + " |", ruler])

    def one_header(self, form):
        ruler = "+" + "-" * (len(form) + 2) + "+"
        return "\n".join([ruler, "| " + form + " |", ruler, ruler])

    def test_forms_that_are_none(self):
        for form in (
            '"a\\a"', '"\\x"', '"\\N"', '"\\0"', '"a\\ "', '"\\"', '"a\\"', '"\\\\\\"', '"\\', '"\\q\\n"',
            '"a"', '"a b"', '"name"', '"007"', '"-0"', '"-"', '"1-"', '"1a"',
            '"', '"a', 'a"', '"1', '1"', '" a', 'a "', '"a"b', 'a"b"', '"a"b"', '"a""b"', '""a', '"""', '"7" "',
            "~", "a~", "a~b", "~a", '"~"', '"a~"', "\\", "a\\", "\\n", "a\\nb", "\\\\", "\\p", '"a|b"',
            "a\\\"", "1~", '"\\"~', '"1" ', ' "1"',
        ):
            self.assert_not_read(self.one_cell(form))
            self.assert_not_read(self.one_header(form))

    def test_forms_that_are_right_are_read_the_same_way(self):
        for form, words in (('"\\n"', "\n"), ('"7"', "7"), ('"\\""', '"'), ('" a"', " a"), ("007", "007"), ('""', "")):
            self.assertEqual(table_after(read_table(self.one_cell(form))), [["h"], [words]])
            self.assertEqual(table_after(read_table(self.one_header(form))), [[words]])

    def test_a_space_in_the_place_of_a_cell(self):
        for form in (" ", "  ", "     "):
            self.assert_not_read(self.one_cell(form))
            self.assert_not_read(self.one_header(form))
        self.assert_not_read("+--+\n|  |\n+--+\n+--+")
        self.assert_not_read("++\n||\n++\n++")

    def test_header_that_is_a_number(self):
        for number in ("0", "1", "-1", "123", "9" * 30, "9" * 31):
            self.assert_not_read(self.one_header(number))
            self.assertEqual(table_after(read_table(self.one_header('"' + number + '"'))), [[number]])
        self.assert_not_read("+---+---+\n| x | 1 |\n+---+---+\n| 1 | 1 |\n+---+---+")

    def test_9_columns(self):
        for count in (9, 10, 100):
            self.assert_not_read(full_text(["h"] * count))
            self.assert_not_read(full_text(["h"] * count, [1] * count))
        self.assert_not_read(full_text(["h"] * 8, [1] * 8).replace("\n| 1 ", "\n| 1 | 1 "))

    def test_25_rows(self):
        for count in (25, 26, 500):
            self.assert_not_read(full_text(["h"], *[[number] for number in range(count)]))
        self.assert_not_read(full_text([""] * 8, *[[""] * 8] * 25))

    def test_texts_of_201_bytes(self):
        for sign in ("x", "|", "\n", "7", " ", "0"):
            for length in (201, 202, 1000):
                self.assert_not_read(full_text([sign * length]))
                self.assert_not_read(full_text(["h"], [sign * length]))
            self.assertEqual(table_after(read_table(full_text(["h"], [sign * 200]))), [["h"], [sign * 200]])

    def test_numbers_of_31_digits(self):
        for number in (10 ** 30, -10 ** 30, 10 ** 30 + 1, 10 ** 31 - 1, -10 ** 31 + 1, 10 ** 199, 10 ** 200):
            self.assert_not_read(full_text(["h"], [number]))

    def test_cells_of_thousands_of_digits(self):
        for count in (1000, 4000, 4299, 4300, 4301, 5000, 16900):
            for form in ("1" * count, "-" + "9" * count, "0" * count, "-0" + "1" * count, '"' + "1" * count + '"'):
                self.assert_not_read("+---+\n| h |\n+---+\n| " + form + " |\n+---+")
                self.assert_not_read("+---+\n| " + form + " |\n+---+\n+---+")
                self.assert_not_read("+---+\n| h | g |\n+---+\n| 1 | " + form + " |\n+---+")
                self.assert_not_read(form)
                if count <= 3000:
                    self.assert_not_read(self.one_cell(form))
                    self.assert_not_read(self.one_header(form))

    def test_rows_of_unequal_length(self):
        for row in ("| 1 |", "| 1 | 2 | 3 |", "| 1   2 |", "|", "||", "", "| 1 | 2", "1 | 2 |"):
            words = "+---+---+\n| a | b |\n+---+---+\n| 1 | 2 |\n" + row + "\n+---+---+"
            self.assert_not_read(words)
            self.assert_not_read("+---+---+\n" + row + "\n+---+---+\n| 1 | 2 |\n+---+---+")

    def test_long_texts_of_one_sign(self):
        for sign in "+-| \n\"\\x0":
            self.assert_not_read(sign * 16998)
        self.assert_not_read("\n".join(["+" * 4000] * 4))
        self.assert_not_read("+" * 8000 + "\n| x |\n+---+\n+---+")
        self.assert_not_read("\n".join(["+" * 3000, "|" * 3000, "+" * 3000, "+" * 3000]))
        self.assert_not_read("\n".join(["+---+", "| x |", "+---+"] + ["| 1 |"] * 2800))

    def test_numbers_that_no_text_contains(self):
        for number in (0, 9, 13, 11, 31, 127, 128, 255, 256, -1, -10, -HUGE, HUGE):
            whole = [ord(sign) for sign in WHOLE]
            for place in range(len(whole)):
                for words in (whole[:place] + [number] + whole[place + 1:], whole[:place] + [number] + whole[place:]):
                    self.assertEqual(ask(with_list(14, words)), [[-16]], words)
            for words in ([number], whole + [number], [number] + whole):
                self.assertEqual(ask(with_list(14, words)), [[-16]], words)

    def test_carriage_returns(self):
        self.assert_not_read(WHOLE.replace("\n", "\r\n"))

    def test_every_text_that_differs_in_one_place(self):
        for whole in (WHOLE, TWO, full_text(["", "0"], ["\n", 10], ["-0", -1])):
            for place in range(len(whole) + 1):
                for sign in "+-| \n\"\\x01np~":
                    for words in (whole[:place] + sign + whole[place:], whole[:place] + sign + whole[place + 1:]):
                        self.assert_read_exactly_or_refused(words)
                self.assert_read_exactly_or_refused(whole[:place] + whole[place + 1:])
                self.assert_not_read(whole[:place] if place < len(whole) else "")

    def assert_read_exactly_or_refused(self, words):
        call = read_table(words)
        answer = last(call)
        if answer == [0]:
            self.assertEqual(full_text(*table_after(call)), words)
        else:
            self.assertEqual(answer, [-16])
            self.assert_not_read(words)

    def test_errors_in_order(self):
        for words in (WHOLE, "", "| x |", "\n" * 100, "1" * 4500):
            self.assert_refused(read_table(words), -1, full_report())
        self.assert_refused(with_list(14, [HUGE, -1, 255]), -1, full_report())
        for words in ("", "| x |", WHOLE + "\n"):
            self.assert_refused(read_table(words), -16, full_report()[:11])
            self.assert_refused(read_table(words), -16)
        self.assertEqual(last(*full_report()[:11], read_table(WHOLE)), [11])

    def test_table_without_rows(self):
        self.assert_read_exactly_or_refused("+---+\n| h |\n+---+\n+---+")
        self.assertEqual(table_after(read_table("+---+\n| h |\n+---+\n+---+")), [["h"]])
        self.assert_not_read("+---+\n| h |\n+---+")
