"""Layout of plots."""

import random
import unittest

from tests.helpers import GREATEST, add_plot, join, laid_out


def plot(height, points, width):
    return laid_out(add_plot(height, join(points)), width)


class PlotLayoutTest(unittest.TestCase):

    def test_example_of_the_document(self):
        self.assertEqual(plot(5, [(0, 0), (10, 5), (10, 5), (5, 2)], 20), [
            "5|                 2",
            " |",
            " |",
            " |        *",
            "0|*",
            " +------------------",
            "  0               10",
        ])

    def test_no_points(self):
        for height in (3, 40):
            for width in (20, 120):
                self.assertEqual(plot(height, [], width), ["(no points)"])

    def test_one_point(self):
        self.assertEqual(plot(3, [(7, -5)], 20), [
            "-5|",
            "  |",
            "-5|*",
            "  +-----------------",
            "   7               7",
        ])

    def test_all_x_the_same(self):
        self.assertEqual(plot(3, [(4, 1), (4, 3), (4, 2)], 20), [
            "3|*",
            " |*",
            "1|*",
            " +------------------",
            "  4                4",
        ])

    def test_all_y_the_same(self):
        self.assertEqual(plot(4, [(0, 9), (17, 9), (1, 9)], 20), [
            "9|",
            " |",
            " |",
            "9|**               *",
            " +------------------",
            "  0               17",
        ])

    def test_points_in_one_place(self):
        for count, sign in ((1, "*"), (2, "2"), (3, "3"), (8, "8"), (9, "9"), (10, "#"), (11, "#"), (59, "#")):
            self.assertEqual(plot(3, [(0, 0)] * count + [(1, 1)], 20)[:3], ["1|                 *", " |", "0|" + sign])
        self.assertEqual(plot(3, [(0, 0)] * 60, 20)[:3], ["0|", " |", "0|#"])

    def test_points_that_share_a_place_of_the_grid(self):
        points = [(0, 0), (100, 100), (51, 50), (52, 51), (58, 66), (60, 66), (99, 99)]
        self.assertEqual(plot(3, points, 22)[:4], [
            "100|                 *",
            "   |        2**     *",
            "  0|*",
            "   +------------------",
        ])

    def test_heights(self):
        for height in (3, 4, 39, 40):
            lines = plot(height, [(0, 0), (height - 1, height - 1), (1, 1)], 60)
            self.assertEqual(len(lines), height + 2)
            self.assertEqual(lines[0].split("|")[0].strip(), str(height - 1))
            self.assertEqual(lines[height - 1].split("|")[0].strip(), "0")
            self.assertEqual([line for line in lines[1:height - 2] if line.strip() != "|"], [])
            self.assertEqual(lines[height - 2].strip()[0], "|")
            self.assertEqual(lines[height - 2].strip()[-1], "*")

    def test_every_row_of_40(self):
        lines = plot(40, [(y, y) for y in range(40)], 43)
        self.assertEqual([line[3:] for line in lines[:40]], [" " * y + "*" for y in range(39, -1, -1)])
        self.assertEqual([line[:3] for line in lines[:40]], ["39|"] + ["  |"] * 38 + [" 0|"])

    def test_labels_of_different_lengths(self):
        self.assertEqual(plot(3, [(0, -100), (1, 5)], 20), [
            "   5|              *",
            "    |",
            "-100|*",
            "    +---------------",
            "     0             1",
        ])
        self.assertEqual(plot(3, [(0, 5), (1, 1000)], 20)[:3], ["1000|              *", "    |", "   5|*"])

    def test_grid_of_7_and_of_8(self):
        self.assertEqual(plot(3, [(0, 10 ** 11)], 20), ["(too narrow)"])
        self.assertEqual(plot(3, [(0, -10 ** 10), (0, 0)], 20), ["(too narrow)"])
        self.assertEqual(plot(3, [(0, 0), (1, 10 ** 10)], 20), [
            "10000000000|       *",
            "           |",
            "          0|*",
            "           +--------",
            "            0      1",
        ])
        self.assertEqual(plot(3, [(0, -10 ** 9), (1, 0)], 20)[2], "-1000000000|*")
        for length in range(1, 19):
            for width in range(20, 30):
                lines = plot(3, [(0, 10 ** length - 1)], width)
                if width - length - 1 < 8:
                    self.assertEqual(lines, ["(too narrow)"])
                else:
                    self.assertEqual(lines[3], " " * length + "+" + "-" * (width - length - 1))

    def test_longest_labels(self):
        self.assertEqual(plot(40, [(0, -GREATEST)], 27), ["(too narrow)"])
        self.assertEqual(plot(3, [(0, -GREATEST), (0, GREATEST)], 28)[:3], [
            " 999999999999999999|*", "                   |", "-999999999999999999|*",
        ])

    def test_line_of_least_and_greatest_x(self):
        # The grid has 18 places: numbers of 17 bytes together stand on one line, of 18 on two.
        self.assertEqual(plot(3, [(10 ** 7, 0), (10 ** 8, 1)], 20)[4:], ["  10000000 100000000"])
        self.assertEqual(plot(3, [(10 ** 8, 0), (10 ** 8 + 1, 1)], 20)[4:], ["  100000000", "  100000001"])
        self.assertEqual(plot(3, [(-10 ** 7, 0), (10 ** 7, 1)], 20)[4:], ["  -10000000 10000000"])
        self.assertEqual(plot(3, [(-10 ** 8, 0), (10 ** 7, 1)], 20)[4:], ["  -100000000", "  10000000"])
        self.assertEqual(plot(3, [(5, 0)], 20)[4:], ["  5                5"])

    def test_least_and_greatest_x_truncated(self):
        points = [(-GREATEST, 0), (GREATEST, 10 ** 10)]
        self.assertEqual(plot(3, points, 20)[4:], ["            -999999~", "            9999999~"])
        points = [(-10 ** 7, 0), (10 ** 7, 10 ** 10)]
        self.assertEqual(plot(3, points, 20)[4:], ["            -100000~", "            10000000"])
        points = [(-10 ** 17, 0), (10 ** 17, 1)]
        self.assertEqual(plot(3, points, 20)[4:], ["  -1000000000000000~", "  100000000000000000"])

    def test_negative_coordinates(self):
        self.assertEqual(plot(3, [(-10, -10), (-1, -1), (-4, -5)], 20), [
            " -1|               *",
            "   |          *",
            "-10|*",
            "   +----------------",
            "    -10           -1",
        ])

    def test_places_are_rounded_down(self):
        # With the numbers -3 to 4 on a grid of 17 places, x = -1 stands at 2 * 16 / 7 = 4, x = 2 at 5 * 16 / 7 = 11.
        self.assertEqual(plot(3, [(-3, -3), (4, 4), (-1, 0), (2, 1)], 20)[:3], [
            " 4|                *", "  |           *", "-3|*   *",
        ])

    def test_products_of_36_digits(self):
        # One below the place of the middle stands before it, however little is missing.
        middle = 10 ** 17
        points = [(0, 0), (2 * middle, 2 * middle), (middle, middle), (middle - 1, middle - 1)]
        lines = plot(3, points, 36)
        self.assertEqual(lines[0], "200000000000000000|" + " " * 16 + "*")
        self.assertEqual(lines[1], " " * 18 + "|" + " " * 8 + "*")
        self.assertEqual(lines[2], " " * 17 + "0|*" + " " * 6 + "*")
        points = [(-GREATEST, -GREATEST), (GREATEST, GREATEST), (0, 0), (-1, -1)]
        lines = plot(3, points, 119)
        self.assertEqual(lines[0], " 999999999999999999|" + " " * 98 + "*")
        self.assertEqual(lines[1], " " * 19 + "|" + " " * 49 + "*")
        self.assertEqual(lines[2], "-999999999999999999|*" + " " * 47 + "*")

    def test_spaces_at_the_end_of_a_line_are_removed(self):
        lines = plot(10, [(0, 0), (9, 9), (9, 0)], 30)
        self.assertEqual(lines[1:9], [" |"] * 8)
        self.assertEqual([line for line in lines if line != line.rstrip(" ")], [])

    def test_points_twice_in_other_order(self):
        points = [(3, 4), (-7, 12), (3, 4), (9, -2), (0, 0)]
        self.assertEqual(plot(9, points, 50), plot(9, points[::-1], 50))

    def test_every_place_shows_how_many_points_are_there(self):
        drawn = random.Random(1)
        for most in (2, 5, 100, GREATEST):
            for height in (3, 7, 40):
                count = drawn.randint(1, 60)
                points = [(drawn.randint(-most, most), drawn.randint(-most, most)) for number in range(count)]
                for width in (20, 45, 120):
                    self.assert_shown(points, height, width)

    def assert_shown(self, points, height, width):
        xs = [x for x, y in points]
        ys = [y for x, y in points]
        lines = plot(height, points, width)
        label = max(len(str(min(ys))), len(str(max(ys))))
        grid = width - label - 1
        if grid < 8:
            self.assertEqual(lines, ["(too narrow)"])
            return
        for row in range(height):
            line = lines[height - 1 - row].ljust(width)
            self.assertEqual(len(line), width)
            for column in range(grid):
                there = [
                    1 for x, y in points
                    if (x - min(xs)) * (grid - 1) // max(max(xs) - min(xs), 1) == column
                    and (y - min(ys)) * (height - 1) // max(max(ys) - min(ys), 1) == row
                ]
                sign = " " if not there else "*" if len(there) == 1 else str(len(there)) if len(there) < 10 else "#"
                self.assertEqual(line[label + 1 + column], sign)
