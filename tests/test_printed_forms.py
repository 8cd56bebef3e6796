"""Printed forms of cells and headers."""

import unittest

from tests.helpers import HUGE, add_table, cells, full_text, laid_out, printed, read_table, table_after

DIGITS = "1234567890" * 20

# Texts and how they are printed.
FORMS = (
    ("a", "a"), ("name", "name"), ("b c", "b c"), ("a  b", "a  b"), ("'`^{}", "'`^{}"), ("!", "!"),
    ("", '""'), (" ", '" "'), (" a", '" a"'), ("a ", '"a "'), ("  a  b  ", '"  a  b  "'),
    ("\n", '"\\n"'), ("a\nb", '"a\\nb"'), ('"', '"\\""'), ('a"b', '"a\\"b"'), ("\\", '"\\\\"'), ("a\\n", '"a\\\\n"'),
    ("|", '"\\p"'), ("b | c", '"b \\p c"'), ("~", '"\\t"'), ("a~", '"a\\t"'), ('""', '"\\"\\""'),
    ("\n\"\\|~ x", '"\\n\\"\\\\\\p\\t x"'),
    ("0", '"0"'), ("7", '"7"'), ("10", '"10"'), ("-1", '"-1"'), ("-10", '"-10"'), ("1234567890", '"1234567890"'),
    ("007", "007"), ("00", "00"), ("01", "01"), ("-0", "-0"), ("-00", "-00"), ("-01", "-01"), ("-", "-"),
    ("--1", "--1"), ("+1", "+1"), ("1-", "1-"), ("1-1", "1-1"), (" 1", '" 1"'), ("1 ", '"1 "'), ("1 1", "1 1"),
    ("1a", "1a"), ("a1", "a1"), ("-a", "-a"), ("1.0", "1.0"), ("1/2", "1/2"), ("1:2", "1:2"), ("-1-", "-1-"),
    ("n", "n"), ("p", "p"), ("t", "t"), ("1\n", '"1\\n"'), ("\n1", '"\\n1"'),
)

# Texts that are longer than a line, and how they are printed.
LONG_FORMS = (
    (DIGITS, '"' + DIGITS + '"'), ("-" + DIGITS[:199], '"-' + DIGITS[:199] + '"'),
    ("0" + DIGITS[:199], "0" + DIGITS[:199]),
    ("0" * 200, "0" * 200), ("-0" + DIGITS[:198], "-0" + DIGITS[:198]), ("9" * 31, '"' + "9" * 31 + '"'),
    (DIGITS[:199] + "x", DIGITS[:199] + "x"), ("x" * 200, "x" * 200), (" " * 200, '"' + " " * 200 + '"'),
    ("\n" * 200, '"' + "\\n" * 200 + '"'), ("|" * 200, '"' + "\\p" * 200 + '"'), ("-" * 200, "-" * 200),
)


class PrintedFormsTest(unittest.TestCase):

    def test_texts_as_headers(self):
        for words, form in FORMS:
            ruler = "+" + "-" * (len(form) + 2) + "+"
            self.assertEqual(laid_out(add_table(1, cells(words)), 40), [ruler, "| " + form + " |", ruler, ruler])

    def test_texts_as_cells(self):
        for words, form in FORMS:
            width = max(len(form), 1)
            ruler = "+" + "-" * (width + 2) + "+"
            self.assertEqual(
                laid_out(add_table(1, cells("h", words)), 40),
                [ruler, "| " + "h".ljust(width) + " |", ruler, "| " + form + " |", ruler])

    def test_texts_stand_to_the_left(self):
        for words, form in FORMS:
            self.assertEqual(laid_out(add_table(1, cells("h" * 20, words)), 40)[3], "| " + form.ljust(20) + " |")

    def test_numbers(self):
        for number, form in (
            (0, "0"), (7, "7"), (-1, "-1"), (10, "10"), (-10, "-10"), (100, "100"), (-12, "-12"),
            (HUGE, "1000000000000000000"), (-HUGE, "-1000000000000000000"),
        ):
            self.assertEqual(laid_out(add_table(1, cells("h" * 20, number)), 40)[3], "| " + form.rjust(20) + " |")

    def test_long_texts(self):
        for words, form in LONG_FORMS:
            if len(form) <= 116:
                shown = form
            else:
                shown = form[:115] + "~"
            for values in ((words,), (words, words), ("h", words)):
                lines = laid_out(add_table(1, cells(*values)), 120)
                self.assertEqual(lines[-2 if len(values) > 1 else 1], "| " + shown + " |")

    def test_long_texts_at_their_natural_width(self):
        for words, form in LONG_FORMS:
            ruler = "+" + "-" * (len(form) + 2) + "+"
            whole = "\n".join([ruler, "| " + form + " |", ruler, "| " + form + " |", ruler])
            self.assertEqual(table_after(read_table(whole)), [[words], [words]])

    def test_printed_forms_of_the_tests(self):
        for words, form in FORMS + LONG_FORMS:
            self.assertEqual(printed(words), form)

    def test_numbers_and_texts_of_the_same_digits(self):
        call = add_table(1, cells("5", 5, "5", "05"))
        self.assertEqual(laid_out(call, 20), [
            "+-----+", '| "5" |', "+-----+", "|   5 |", '| "5" |', "| 05  |", "+-----+",
        ])

    def test_full_text_of_the_tests(self):
        self.assertEqual(full_text(["n", "b | c"], [-12, ""], ["x", 5]), "\n".join([
            "+-----+----------+",
            '| n   | "b \\p c" |',
            "+-----+----------+",
            '| -12 | ""       |',
            "| x   |        5 |",
            "+-----+----------+",
        ]))
