"""Layout of headings, check marks and paragraphs."""

import random
import unittest

from tests.helpers import add_check, add_heading, add_paragraph, laid_out, text

LINE = "abcdefghij" * 20


class HeadingLayoutTest(unittest.TestCase):

    def assert_heading(self, level, words, width, expected):
        self.assertEqual(laid_out(add_heading(level, text(words)), width), expected)

    def test_ordinary_headings(self):
        self.assert_heading(1, "Report", 20, ["Report", "======"])
        self.assert_heading(2, "Part one", 40, ["Part one", "--------"])
        self.assert_heading(3, "Detail", 20, ["# Detail"])

    def test_empty_texts(self):
        for width in (20, 120):
            self.assert_heading(1, "", width, ["", ""])
            self.assert_heading(2, "", width, ["", ""])
            self.assert_heading(3, "", width, ["# "])

    def test_line_feeds_are_spaces(self):
        for level, mark in ((1, "="), (2, "-")):
            self.assert_heading(level, "a\nb", 20, ["a b", mark * 3])
            self.assert_heading(level, "\n", 20, [" ", mark])
            self.assert_heading(level, "\na\n\n", 20, [" a  ", mark * 4])
            self.assert_heading(level, "\n" * 200, 20, [" " * 19 + "~", mark * 20])
        self.assert_heading(3, "a\nb\n", 20, ["# a b "])
        self.assert_heading(3, "\n" * 200, 20, ["#" + " " * 18 + "~"])

    def test_spaces_stay(self):
        self.assert_heading(1, "  a  b  ", 20, ["  a  b  ", "========"])
        self.assert_heading(3, "  a  b  ", 20, ["#   a  b  "])

    def test_truncated_to_the_width(self):
        for width in (20, 33, 120):
            for level, mark in ((1, "="), (2, "-")):
                for length in (1, width - 1, width):
                    self.assert_heading(level, LINE[:length], width, [LINE[:length], mark * length])
                for length in (width + 1, width + 2, 200):
                    self.assert_heading(level, LINE[:length], width, [LINE[:width - 1] + "~", mark * width])

    def test_level_3_is_truncated_as_a_whole(self):
        for width in (20, 33, 120):
            for length in (1, width - 3, width - 2):
                self.assert_heading(3, LINE[:length], width, ["# " + LINE[:length]])
            for length in (width - 1, width, width + 1, 200):
                self.assert_heading(3, LINE[:length], width, ["# " + LINE[:width - 3] + "~"])


class CheckLayoutTest(unittest.TestCase):

    def assert_check(self, passed, words, width, expected):
        self.assertEqual(laid_out(add_check(passed, text(words)), width), [expected])

    def test_marks(self):
        self.assert_check(1, "tests", 20, "[ok] tests")
        self.assert_check(0, "tests", 20, "[no] tests")
        self.assert_check(1, "", 20, "[ok] ")
        self.assert_check(0, "", 120, "[no] ")

    def test_line_feeds_are_spaces(self):
        self.assert_check(1, "a\nb\n", 20, "[ok] a b ")
        self.assert_check(0, "\n\n", 20, "[no]   ")

    def test_truncated_as_a_whole(self):
        for passed, mark in ((0, "[no] "), (1, "[ok] ")):
            for width in (20, 21, 120):
                for length in (width - 6, width - 5):
                    self.assert_check(passed, LINE[:length], width, mark + LINE[:length])
                for length in (width - 4, width, 200):
                    self.assert_check(passed, LINE[:length], width, mark + LINE[:width - 6] + "~")


class ParagraphLayoutTest(unittest.TestCase):

    def assert_paragraph(self, words, width, expected):
        self.assertEqual(laid_out(add_paragraph(text(words)), width), expected)

    def test_ordinary_paragraph(self):
        words = "To be, or not to be, that is the question."
        self.assert_paragraph(words, 20, ["To be, or not to be,", "that is the", "question."])
        self.assert_paragraph(words, 120, [words])

    def test_empty_text(self):
        for width in (20, 120):
            self.assert_paragraph("", width, [""])

    def test_line_feeds(self):
        self.assert_paragraph("\n", 20, ["", ""])
        self.assert_paragraph("\n\n\n", 20, ["", "", "", ""])
        self.assert_paragraph("\na", 20, ["", "a"])
        self.assert_paragraph("a\n", 20, ["a", ""])
        self.assert_paragraph("a\n\nb", 20, ["a", "", "b"])
        self.assert_paragraph("a\nb c\nd", 20, ["a", "b c", "d"])
        self.assert_paragraph("\n" * 200, 20, [""] * 201)

    def test_spaces(self):
        self.assert_paragraph("a   b", 20, ["a b"])
        self.assert_paragraph("   a b   ", 20, ["a b"])
        self.assert_paragraph(" ", 20, [""])
        self.assert_paragraph(" " * 200, 20, [""])
        self.assert_paragraph("a\n   \nb", 20, ["a", "", "b"])
        self.assert_paragraph("  a  \n  b  c  ", 20, ["a", "b c"])
        self.assert_paragraph(" \n ", 20, ["", ""])

    def test_spaces_do_not_count_for_the_width(self):
        self.assert_paragraph("a" * 10 + " " * 30 + "b" * 9, 20, ["a" * 10 + " " + "b" * 9])

    def test_line_full_to_the_width(self):
        self.assert_paragraph("a" * 10 + " " + "b" * 9, 20, ["a" * 10 + " " + "b" * 9])
        self.assert_paragraph("a" * 10 + " " + "b" * 10, 20, ["a" * 10, "b" * 10])
        self.assert_paragraph("a" * 60 + " " + "b" * 59, 120, ["a" * 60 + " " + "b" * 59])
        self.assert_paragraph("a" * 60 + " " + "b" * 60, 120, ["a" * 60, "b" * 60])
        self.assert_paragraph("a " * 100, 20, [" ".join("a" * 10)] * 10)
        self.assert_paragraph("a " * 10 + "b", 20, [" ".join("a" * 10), "b"])

    def test_each_word_as_early_as_it_fits(self):
        self.assert_paragraph("aaaaaaaaaaaaaaa bbbb ccccc dd eeeeeeeeeee f", 20,
                              ["aaaaaaaaaaaaaaa bbbb", "ccccc dd eeeeeeeeeee", "f"])

    def test_long_words(self):
        for width in (20, 50):
            pieces = [LINE[:width], LINE[width:2 * width]]
            self.assert_paragraph(LINE[:width], width, pieces[:1])
            self.assert_paragraph(LINE[:width + 1], width, [pieces[0], LINE[width]])
            self.assert_paragraph(LINE[:2 * width - 1], width, [pieces[0], pieces[1][:-1]])
            self.assert_paragraph(LINE[:2 * width], width, pieces)
            self.assert_paragraph(LINE[:2 * width + 1], width, pieces + [LINE[2 * width]])
        self.assert_paragraph(LINE, 120, [LINE[:120], LINE[120:]])
        self.assert_paragraph(LINE, 20, [LINE[:20]] * 10)

    def test_pieces_of_a_long_word_join_the_words_around_them(self):
        self.assert_paragraph("x " + LINE[:25] + " y", 20, ["x", LINE[:20], LINE[20:25] + " y"])
        self.assert_paragraph(LINE[:21] + " " + LINE[:21], 20, [LINE[:20], "a", LINE[:20], "a"])
        self.assert_paragraph(LINE[:22] + " " + "y" * 17, 20, [LINE[:20], "ab " + "y" * 17])
        self.assert_paragraph(LINE[:22] + " " + "y" * 18, 20, [LINE[:20], "ab", "y" * 18])
        self.assert_paragraph("x\n" + LINE[:21] + "\ny", 20, ["x", LINE[:20], "a", "y"])

    def test_every_byte_of_a_text(self):
        words = "".join(map(chr, range(33, 127)))
        self.assert_paragraph(words, 120, [words])

    def test_drawn_paragraphs(self):
        drawn = random.Random(5)
        for number in range(300):
            signs = drawn.choice(("a ", "ab c", "abcdefgh ", "a b\n", "a" * 30 + " "))
            words = "".join(drawn.choice(signs) for sign in range(drawn.randint(0, 200)))
            for width in (20, drawn.randint(21, 119), 120):
                self.assert_words_in_lines(words, width)

    def assert_words_in_lines(self, words, width):
        """Tell the point 2 of the requirements, for each part of a text by itself."""
        lines = laid_out(add_paragraph(text(words)), width)
        for part in words.split("\n"):
            whole_words = [word for word in part.split(" ") if word]
            pieces = [word[start:start + width] for word in whole_words for start in range(0, len(word), width)]
            of_part = []
            while sum(len(line.split(" ")) for line in of_part) < max(len(pieces), 1):
                of_part.append(lines.pop(0))
            self.assertEqual([piece for line in of_part for piece in line.split(" ")], pieces or [""])
            self.assertLessEqual(max(map(len, of_part)), width)
            for line, following in zip(of_part, of_part[1:]):
                self.assertGreater(len(line) + 1 + len(following.split(" ")[0]), width)
        self.assertEqual(lines, [])
