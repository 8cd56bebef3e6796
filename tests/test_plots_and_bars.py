"""add_plot and add_bars."""

from tests.helpers import BAD_ENCODINGS, HUGE, IN_A_TEXT, NOT_IN_A_TEXT, CallTest
from tests.helpers import add_bars, add_heading, add_plot, cells, kinds_after, laid_out, text


class AddPlotTest(CallTest):

    def test_ordinary_plot(self):
        call = add_plot(5, [0, 0, 10, 5, 10, 5, 5, -2])
        self.assert_adds(call)
        self.assertEqual(kinds_after(call), [3])
        self.assertEqual(laid_out(call, 20), [
            " 5|                2",
            "  |",
            "  |",
            "  |*",
            "-2|        *",
            "  +-----------------",
            "   0              10",
        ])

    def test_heights(self):
        for height in (3, 4, 39, 40):
            self.assert_adds(add_plot(height, [1, 2]))
        for height in (-HUGE, -3, -1, 0, 1, 2, 41, 42, 60, HUGE):
            self.assert_refused(add_plot(height, [1, 2]), -7)

    def test_counts_of_coordinates(self):
        for count in (0, 2, 4, 118, 120):
            self.assert_adds(add_plot(3, [1] * count))
        for count in (1, 3, 119, 121, 122, 123, 199, 200):
            self.assert_refused(add_plot(3, [1] * count), -8)

    def test_sixty_points_are_kept(self):
        lines = laid_out(add_plot(40, list(range(120))), 64)
        self.assertEqual([line[4:].count("*") for line in lines[:40]].count(0), 0)
        self.assertEqual("".join(lines[:40]).count("*"), 60)

    def test_bounds_of_coordinates(self):
        greatest = HUGE - 1
        for number in (-greatest, -greatest + 1, -1, 0, 1, greatest - 1, greatest):
            self.assert_adds(add_plot(3, [number, 0]))
            self.assert_adds(add_plot(3, [0, number]))
        for number in (-HUGE, HUGE):
            for place in (0, 1, 2, 3, 118, 119):
                coordinates = [5] * 120
                coordinates[place] = number
                self.assert_refused(add_plot(3, coordinates), -9)

    def test_height_is_checked_before_coordinates(self):
        for height in (2, 41):
            for coordinates in ([1], [1] * 122, [HUGE, 1], [HUGE]):
                self.assert_refused(add_plot(height, coordinates), -7)

    def test_count_is_checked_before_bounds(self):
        for count in (1, 121, 122):
            self.assert_refused(add_plot(3, [HUGE] * count), -8)

    def test_full_report_is_checked_first(self):
        self.assert_full_first([
            add_plot(3, []), add_plot(2, []), add_plot(3, [1]), add_plot(3, [HUGE, 1]), add_plot(41, [HUGE]),
        ])

    def test_refused_behind_other_items(self):
        before = [add_plot(3, [1, 1]), add_heading(1, text("x"))]
        self.assert_refused(add_plot(2, []), -7, before)
        self.assert_refused(add_plot(3, [1]), -8, before)
        self.assert_refused(add_plot(3, [HUGE, 1]), -9, before)


class AddBarsTest(CallTest):

    def test_ordinary_bars(self):
        call = add_bars(cells("a", 3, "b\nc", 1))
        self.assert_adds(call)
        self.assertEqual(kinds_after(call), [5])
        self.assertEqual(laid_out(call, 20), ["a   ============== 3", "b c ====           1"])

    def test_counts_of_bars(self):
        for count in (0, 1, 2, 19, 20):
            self.assert_adds(add_bars(cells("a", 3) * count))
        for count in (21, 22, 100):
            self.assert_refused(add_bars(cells("a", 3) * count), -6)

    def test_twenty_bars_are_kept(self):
        values = [value for number in range(20) for value in ("b" * (number % 5), number)]
        lines = laid_out(add_bars(cells(*values)), 30)
        expected = ["b" * (number % 5) for number in range(20)]
        self.assertEqual([line[:4].rstrip() for line in lines], expected)
        self.assertEqual([int(line[-2:]) for line in lines], list(range(20)))

    def test_odd_counts_of_cells(self):
        for count in (0, 1, 19, 20):
            self.assert_refused(add_bars(cells("a", 3) * count + cells("b")), -6)

    def test_bad_encodings(self):
        for bad in BAD_ENCODINGS:
            self.assert_refused(add_bars(bad), -5)
            self.assert_refused(add_bars(cells("a", 3) + bad), -5)

    def test_texts_of_bars(self):
        for length in (0, 1, 199, 200):
            self.assert_adds(add_bars(cells("x" * length, 1)))
        self.assert_refused(add_bars(cells("x" * 201, 1)), -5)
        for number in IN_A_TEXT:
            self.assert_adds(add_bars([1, 1, number, 0, 1]))
        for number in NOT_IN_A_TEXT:
            self.assert_refused(add_bars([1, 1, number, 0, 1]), -5)

    def test_texts_and_numbers_in_turn(self):
        for values in ((1, "a"), ("a", "b"), (1, 2), ("a", 1, 2, "b"), ("a", 1, "b", "c"), ("a", 1, 2, 3)):
            self.assert_refused(add_bars(cells(*values)), -5)
        self.assert_refused(add_bars(cells("a", 3) * 19 + cells(3, "a")), -5)

    def test_bounds_of_numbers(self):
        for number in (0, 1, HUGE - 2, HUGE - 1):
            self.assert_adds(add_bars(cells("a", number)))
            self.assert_adds(add_bars(cells("a", 1, "b", number)))
        for number in (-HUGE, -HUGE + 1, -2, -1, HUGE):
            self.assert_refused(add_bars(cells("a", number)), -9)
            self.assert_refused(add_bars(cells("a", 1, "b", number)), -9)
            self.assert_refused(add_bars(cells("a", number, "b", 1)), -9)

    def test_encoding_is_checked_before_cell_count(self):
        self.assert_refused(add_bars(cells("a") + [2]), -5)
        self.assert_refused(add_bars(cells("a", 3) * 21 + [1]), -5)

    def test_cell_count_is_checked_before_turn(self):
        self.assert_refused(add_bars(cells(1)), -6)
        self.assert_refused(add_bars(cells(1, "a", 2)), -6)
        self.assert_refused(add_bars(cells(1, "a") * 21), -6)

    def test_cell_count_is_checked_before_bounds(self):
        self.assert_refused(add_bars(cells("a", -1) * 21), -6)

    def test_turn_is_checked_before_bounds(self):
        self.assert_refused(add_bars(cells("a", -1, "b", "c")), -5)
        self.assert_refused(add_bars(cells("a", HUGE, 1, "c")), -5)
        self.assert_refused(add_bars(cells(-1, -1)), -5)

    def test_full_report_is_checked_first(self):
        self.assert_full_first([
            add_bars([]), add_bars(cells("a", 3)), add_bars([2]), add_bars(cells("a")),
            add_bars(cells(1, "a")), add_bars(cells("a", -1)),
        ])

    def test_refused_behind_other_items(self):
        before = [add_bars(cells("a", 3)), add_heading(1, text("x"))]
        for numbers, code in (([2], -5), (cells("a"), -6), (cells(1, "a"), -5), (cells("a", -1), -9)):
            self.assert_refused(add_bars(numbers), code, before)
