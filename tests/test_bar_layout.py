"""Layout of bar charts."""

import random
import unittest

from tests.helpers import GREATEST, add_bars, cells, laid_out


def chart(bars, width):
    return laid_out(add_bars(cells(*[value for bar in bars for value in bar])), width)


class BarLayoutTest(unittest.TestCase):

    def test_example_of_the_document(self):
        self.assertEqual(chart([("a", 3), ("b", 1)], 20), ["a ================ 3", "b =====            1"])

    def test_no_bars(self):
        for width in (20, 120):
            self.assertEqual(chart([], width), ["(no bars)"])

    def test_all_numbers_0(self):
        self.assertEqual(chart([("a", 0), ("bc", 0)], 20), ["a                  0", "bc                 0"])
        self.assertEqual(chart([("", 0)], 20), ["                   0"])

    def test_one_bar(self):
        self.assertEqual(chart([("one", 1)], 20), ["one ============== 1"])
        self.assertEqual(chart([("one", 123)], 20), ["one ============ 123"])
        self.assertEqual(chart([("one", GREATEST)], 40), ["one " + "=" * 17 + " " + "9" * 18])

    def test_lengths_of_texts(self):
        self.assertEqual(chart([("", 1)], 20), ["  ================ 1"])
        self.assertEqual(chart([("x", 1)], 20), ["x ================ 1"])
        self.assertEqual(chart([("x" * 11, 1)], 20), ["x" * 11 + " ====== 1"])
        self.assertEqual(chart([("x" * 12, 1)], 20), ["x" * 12 + " ===== 1"])
        self.assertEqual(chart([("x" * 13, 1)], 20), ["x" * 11 + "~ ===== 1"])
        self.assertEqual(chart([("x" * 200, 1)], 20), ["x" * 11 + "~ ===== 1"])
        self.assertEqual(chart([("", 1), ("x" * 200, 0), ("abc", 1), ("x" * 12, 1)], 20), [
            "             ===== 1",
            "xxxxxxxxxxx~       0",
            "abc          ===== 1",
            "xxxxxxxxxxxx ===== 1",
        ])

    def test_line_feeds_are_spaces(self):
        self.assertEqual(chart([("a\nb", 1), ("\n", 1)], 20), ["a b ============== 1", "    ============== 1"])
        self.assertEqual(chart([("\n" * 200, 1)], 20), [" " * 11 + "~ ===== 1"])

    def test_spaces_of_texts_stay(self):
        self.assertEqual(chart([(" a ", 1)], 20), [" a  ============== 1"])

    def test_numbers_of_different_lengths(self):
        self.assertEqual(chart([("a", 100), ("b", 7), ("c", 0), ("d", 50)], 25), [
            "a =================== 100",
            "b =                     7",
            "c                       0",
            "d =========            50",
        ])

    def test_room_of_0_and_1(self):
        # Texts of 12 bytes leave room for one = behind numbers of 5 bytes, and for none behind 6.
        self.assertEqual(
            chart([("x" * 12, 99999), ("y", 99998)], 20), ["x" * 12 + " = 99999", "y" + " " * 14 + "99998"])
        self.assertEqual(
            chart([("x" * 12, 100000), ("y", 99999)], 20), ["x" * 12 + "  100000", "y" + " " * 14 + "99999"])
        self.assertEqual(chart([("x" * 12, 1000000), ("y", 1)], 20), ["x" * 12 + "  10000~", "y" + " " * 18 + "~"])
        self.assertEqual(chart([("a", GREATEST)], 22), ["a = " + "9" * 18])
        self.assertEqual(chart([("a", GREATEST)], 21), ["a  " + "9" * 18])
        self.assertEqual(chart([("a", GREATEST)], 20), ["a  " + "9" * 16 + "~"])

    def test_truncated_as_a_whole(self):
        self.assertEqual(chart([("x" * 200, GREATEST), ("", 10 ** 17), ("b", 5)], 20), [
            "xxxxxxxxxxx~  99999~", " " * 14 + "10000~", "b" + " " * 18 + "~",
        ])

    def test_18_digit_numbers(self):
        half = GREATEST // 2
        lines = chart([("a", GREATEST), ("b", half), ("c", half + 1), ("d", 1), ("e", GREATEST - 1)], 42)
        self.assertEqual([line.count("=") for line in lines], [21, 10, 10, 0, 20])
        lines = chart([("a", GREATEST), ("b", half), ("c", half + 1), ("d", 0)], 43)
        self.assertEqual([line.count("=") for line in lines], [22, 10, 11, 0])
        self.assertEqual(lines[1], "b " + "=" * 10 + " " * 12 + " " + str(half))

    def test_twenty_bars(self):
        lines = chart([("n" + str(number), number) for number in range(20)], 120)
        self.assertEqual(len(lines), 20)
        self.assertEqual(lines[0], "n0" + " " * 117 + "0")
        self.assertEqual(lines[19], "n19 " + "=" * 113 + " 19")
        self.assertEqual([line.count("=") for line in lines], [number * 113 // 19 for number in range(20)])

    def test_bars_are_proportional(self):
        drawn = random.Random(2)
        for most in (1, 9, 1000, GREATEST):
            for number in range(20):
                texts = ["x" * drawn.choice((0, 1, 5, 12, 13)) for bar in range(drawn.randint(1, 20))]
                bars = [(words, drawn.randint(0, most)) for words in texts]
                greatest = max(value for words, value in bars)
                label = min(12, max(1, max(map(len, texts))))
                for width in (20, 34, 35, 120):
                    room = width - label - len(str(greatest)) - 2
                    lines = chart(bars, width)
                    self.assertLessEqual(max(map(len, lines)), width)
                    if room >= 1:
                        self.assertEqual({len(line) for line in lines}, {width})
                    for line, (words, value) in zip(lines, bars):
                        length = value * room // greatest if greatest > 0 and room > 0 else 0
                        self.assertEqual(line.count("="), length)
