"""Documents and pages."""

import random

from tests.helpers import HUGE, NO_PAGE_HEIGHTS, NO_WIDTHS, CallTest
from tests.helpers import add_bars, add_check, add_heading, add_paragraph, add_plot, ask, cells, document_after
from tests.helpers import document_lines, full_report, item_lines, last, lines_in, pages, pages_after, table_of, text


def lines_of(count, sign="p"):
    """The call that adds a paragraph of so many lines, which bear numbers."""
    words = "\n".join(numbered(0, count, sign))
    assert len(words) <= 200, words
    return add_paragraph(text(words))


def numbered(start, end, sign="p"):
    return [sign + str(number) for number in range(start, end)]


def table_of_lines(count):
    """The call that adds a table of so many lines, of which the rows bear numbers."""
    return table_of(["r"], *[[10 + number] for number in range(count - 4)])


HEAD = ["+----+", "| r  |", "+----+"]


def table_rows(start, end):
    return ["| " + str(10 + number) + " |" for number in range(start, end)]


class DocumentTest(CallTest):

    def test_no_items(self):
        for width in (20, 120):
            self.assertEqual(ask(document_lines(width)), [[0]])
            self.assertEqual(ask(pages(width, 5)), [[0]])
            self.assertEqual(ask(pages(width, 60)), [[0]])

    def test_one_item_has_no_empty_line(self):
        self.assertEqual(document_after([add_heading(1, text("Report"))], 20), ["Report", "======"])
        self.assertEqual(document_after([add_paragraph([])], 20), [""])
        self.assertEqual(ask(add_paragraph([]), document_lines(20))[1], [1, 0])

    def test_one_empty_line_between_two_items(self):
        calls = [
            add_heading(1, text("Report")), add_check(1, text("a")), add_paragraph(text("b\n")),
            table_of(["h"], [1]), add_bars([]), add_plot(3, []), add_paragraph([]), add_heading(2, []),
        ]
        self.assertEqual(document_after(calls, 20), [
            "Report", "======", "", "[ok] a", "", "b", "", "", "+---+", "| h |", "+---+", "| 1 |", "+---+", "",
            "(no bars)", "", "(no points)", "", "", "", "", "",
        ])

    def test_order_of_the_items(self):
        calls = [add_check(1, text("a")), add_check(1, text("b")), add_check(1, text("c"))]
        self.assertEqual(document_after(calls + [[7, 0, 2]], 20), ["[ok] b", "", "[ok] c", "", "[ok] a"])
        self.assertEqual(document_after(calls + [[6, 1]], 20), ["[ok] a", "", "[ok] c"])

    def test_width_of_each_item(self):
        words = "abcdefgh " * 20
        for width in (20, 21, 119, 120):
            calls = [add_heading(1, text(words)), add_paragraph(text(words)), table_of([words], [5])]
            separate = [lines_in(last(*calls, item_lines(index, width))) for index in range(3)]
            self.assertEqual(document_after(calls, width), separate[0] + [""] + separate[1] + [""] + separate[2])

    def test_errors(self):
        for width in NO_WIDTHS:
            self.assert_refused(document_lines(width), -14)
            self.assert_refused(document_lines(width), -14, full_report())
            for height in (5, 60) + NO_PAGE_HEIGHTS:
                self.assert_refused(pages(width, height), -14, [add_paragraph([])])
        for height in NO_PAGE_HEIGHTS:
            for width in (20, 120):
                self.assert_refused(pages(width, height), -15)
                self.assert_refused(pages(width, height), -15, full_report())
        self.assertEqual(ask(pages(HUGE, HUGE), pages(20, HUGE), document_lines(HUGE)), [[-14], [-15], [-14]])


class PagesTest(CallTest):

    def assert_pages(self, calls, height, expected):
        self.assertEqual(pages_after(calls, 20, height), expected)

    def test_example_of_the_document(self):
        self.assertEqual(
            last(table_of(["x"], [1]), pages(20, 5)),
            [1, 5, 5, 43, 45, 45, 45, 43, 5, 124, 32, 120, 32, 124, 5, 43, 45, 45, 45, 43,
             5, 124, 32, 49, 32, 124, 5, 43, 45, 45, 45, 43])

    def test_items_that_fit_on_one_page(self):
        self.assert_pages([lines_of(2), lines_of(2, "q")], 5, [["p0", "p1", "", "q0", "q1"]])
        self.assert_pages([add_paragraph([])] * 3, 5, [["", "", "", "", ""]])
        self.assert_pages([lines_of(60, "")], 60, [numbered(0, 60, "")])
        self.assert_pages([lines_of(30), lines_of(29, "q")], 60, [numbered(0, 30) + [""] + numbered(0, 29, "q")])

    def test_empty_line_counts(self):
        self.assert_pages([lines_of(2), lines_of(3, "q")], 5, [["p0", "p1"], ["q0", "q1", "q2"]])
        self.assert_pages([lines_of(4), lines_of(1, "q")], 5, [numbered(0, 4), ["q0"]])
        self.assert_pages([lines_of(3), lines_of(1, "q")], 5, [["p0", "p1", "p2", "", "q0"]])
        self.assert_pages([lines_of(30), lines_of(30, "q")], 60, [numbered(0, 30), numbered(0, 30, "q")])

    def test_page_that_is_filled_exactly(self):
        self.assert_pages([lines_of(5), lines_of(1, "q")], 5, [numbered(0, 5), ["q0"]])
        self.assert_pages([lines_of(5), lines_of(5, "q")], 5, [numbered(0, 5), numbered(0, 5, "q")])
        self.assert_pages([add_paragraph([])] * 4, 5, [["", "", "", "", ""], [""]])
        self.assert_pages([add_paragraph([])] * 12, 5, [[""] * 5] * 4)
        self.assert_pages([add_paragraph([])] * 12, 60, [[""] * 23])

    def test_long_item_on_an_empty_page(self):
        for height in (5, 6, 60):
            for count, ends in (
                (height, [height]), (height + 1, [height, height + 1]), (2 * height, [height, 2 * height]),
                (2 * height + 1, [height, 2 * height, 2 * height + 1]), (3 * height, [height, 2 * height, 3 * height]),
            ):
                starts = [0] + ends[:-1]
                expected = [numbered(start, end, "") for start, end in zip(starts, ends)]
                if count <= 61:
                    self.assert_pages([lines_of(count, "")], height, expected)
                words = text("\n" * (count - 1))
                self.assert_pages([add_paragraph(words)], height, [[""] * len(page) for page in expected])

    def test_long_item_on_a_begun_page(self):
        begun = lines_of(1, "q")
        self.assert_pages([begun, lines_of(5)], 5, [["q0"], numbered(0, 5)])
        self.assert_pages([begun, lines_of(6)], 5, [["q0"], numbered(0, 5), ["p5"]])
        self.assert_pages([begun, lines_of(10)], 5, [["q0"], numbered(0, 5), numbered(5, 10)])
        self.assert_pages([begun, lines_of(11)], 5, [["q0"], numbered(0, 5), numbered(5, 10), ["p10"]])

    def test_what_follows_a_divided_item(self):
        self.assert_pages([lines_of(6), lines_of(3, "q")], 5, [numbered(0, 5), ["p5", "", "q0", "q1", "q2"]])
        self.assert_pages([lines_of(6), lines_of(4, "q")], 5, [numbered(0, 5), ["p5"], numbered(0, 4, "q")])
        self.assert_pages([lines_of(10), lines_of(1, "q")], 5, [numbered(0, 5), numbered(5, 10), ["q0"]])
        self.assert_pages([lines_of(7), lines_of(6, "q"), lines_of(1, "r")], 5, [
            numbered(0, 5), ["p5", "p6"], numbered(0, 5, "q"), ["q5", "", "r0"]])

    def test_tables_of_more_lines_than_a_page(self):
        self.assert_pages([table_of_lines(5)], 5, [HEAD + table_rows(0, 1) + HEAD[:1]])
        self.assert_pages([table_of_lines(6)], 5, [HEAD + table_rows(0, 2), HEAD + HEAD[:1]])
        self.assert_pages([table_of_lines(7)], 5, [HEAD + table_rows(0, 2), HEAD + table_rows(2, 3) + HEAD[:1]])
        self.assert_pages([table_of_lines(8)], 5, [
            HEAD + table_rows(0, 2), HEAD + table_rows(2, 4), HEAD + HEAD[:1]])
        self.assert_pages([table_of_lines(28)], 27, [HEAD + table_rows(0, 24), HEAD + HEAD[:1]])
        self.assert_pages([table_of_lines(28)], 28, [HEAD + table_rows(0, 24) + HEAD[:1]])
        self.assert_pages([table_of_lines(28)], 5, [
            HEAD + table_rows(row, row + 2) for row in range(0, 24, 2)] + [HEAD + HEAD[:1]])

    def test_other_lines_that_are_a_multiple_and_one_more(self):
        for height in (6, 8, 11):
            for pages_count in (1, 2):
                for more in (0, 1):
                    count = pages_count * (height - 3) + more
                    page_list = pages_after([table_of_lines(3 + count)], 20, height)
                    self.assertEqual(len(page_list), pages_count + more if count > height - 3 else 1)
                    self.assertEqual([page[:3] for page in page_list], [HEAD] * len(page_list))
                    self.assertEqual(
                        [line for page in page_list for line in page[3:]], table_rows(0, count - 1) + HEAD[:1])
                    self.assertEqual([len(page) for page in page_list[:-1]], [height] * (len(page_list) - 1))

    def test_table_on_a_begun_page(self):
        begun = lines_of(1, "q")
        self.assert_pages([begun, table_of_lines(5)], 5, [["q0"], HEAD + table_rows(0, 1) + HEAD[:1]])
        self.assert_pages([begun, table_of_lines(5)], 7, [["q0", ""] + HEAD + table_rows(0, 1) + HEAD[:1]])
        self.assert_pages([begun, table_of_lines(7)], 5, [
            ["q0"], HEAD + table_rows(0, 2), HEAD + table_rows(2, 3) + HEAD[:1]])

    def test_what_follows_a_divided_table(self):
        last_page = HEAD + HEAD[:1]
        self.assert_pages([table_of_lines(6), lines_of(1)], 5, [HEAD + table_rows(0, 2), last_page, ["p0"]])
        self.assert_pages([table_of_lines(8), lines_of(1)], 6, [
            HEAD + table_rows(0, 3), HEAD + table_rows(3, 4) + HEAD[:1], ["p0"]])
        self.assert_pages([table_of_lines(8), lines_of(1)], 7, [HEAD + table_rows(0, 4), last_page + ["", "p0"]])
        self.assert_pages([table_of_lines(8), lines_of(2)], 7, [
            HEAD + table_rows(0, 4), last_page + ["", "p0", "p1"]])
        self.assert_pages([table_of_lines(8), lines_of(3)], 7, [
            HEAD + table_rows(0, 4), last_page, ["p0", "p1", "p2"]])

    def test_line_of_hidden_columns_on_the_last_page(self):
        call = table_of(["a", "b", "c", "d"], [1, 2, 3, 4], [5, 6, 7, 8])
        head = ["+---+---+---+", "| a | b | c |", "+---+---+---+"]
        self.assert_pages([call], 6, [head + ["| 1 | 2 | 3 |", "| 5 | 6 | 7 |", head[0]], head + ["(+1)"]])

    def test_other_kinds_of_items_have_no_heads(self):
        bars = add_bars(cells(*[value for number in range(7) for value in ("b" + str(number), 0)]))
        lines = document_after([bars], 20)
        self.assert_pages([bars], 5, [lines[:5], lines[5:]])
        plot = add_plot(8, [0, 0, 1, 1])
        lines = document_after([plot], 20)
        self.assert_pages([plot], 5, [lines[:5], lines[5:]])

    def test_item_with_the_same_page_twice(self):
        self.assert_pages([table_of_lines(6)] * 2, 5, [HEAD + table_rows(0, 2), HEAD + HEAD[:1]] * 2)


class DrawnReportsTest(CallTest):
    """The points 1 and 5 of the requirements, over reports that are drawn."""

    def drawn_text(self, drawn):
        signs = drawn.choice(("ab ", "a \n", "abc|~\"\\ \n", "0123456789-", "\n"))
        return "".join(drawn.choice(signs) for number in range(drawn.choice((0, 1, 10, 60, 200))))

    def drawn_cell(self, drawn):
        if drawn.random() < 0.5:
            return drawn.randint(-10 ** drawn.randint(0, 18), 10 ** drawn.randint(0, 18))
        return self.drawn_text(drawn)

    def drawn_item(self, drawn):
        kind = drawn.randint(0, 5)
        words = text(self.drawn_text(drawn))
        if kind == 0:
            return add_heading(drawn.randint(1, 3), words)
        if kind == 1:
            return add_paragraph(words)
        if kind == 2:
            columns = drawn.randint(1, 8)
            rows = [[self.drawn_cell(drawn) for column in range(columns)] for row in range(drawn.randint(0, 24))]
            return table_of([self.drawn_text(drawn) for column in range(columns)], *rows)
        if kind == 3:
            count = 2 * drawn.randint(0, 60)
            return add_plot(drawn.randint(3, 40), [drawn.randint(-99, 99) for number in range(count)])
        if kind == 4:
            return add_check(drawn.randint(0, 1), words)
        bars = [value for number in range(drawn.randint(0, 20))
                for value in (self.drawn_text(drawn), drawn.randint(0, 999))]
        return add_bars(cells(*bars))

    def test_drawn_reports(self):
        drawn = random.Random(3)
        for number in range(150):
            calls = [self.drawn_item(drawn) for item in range(drawn.randint(0, 12))]
            width = drawn.choice((20, 21, 49, 80, 120))
            items = [lines_in(answer) for answer in (
                last(*calls, item_lines(index, width)) for index in range(len(calls)))]
            self.assert_document(calls, items, width)
            for height in (5, 6, drawn.randint(7, 59), 60):
                self.assert_on_pages(calls, items, width, height)

    def assert_document(self, calls, items, width):
        document = document_after(calls, width)
        self.assertEqual(document, [line for item in items for line in [""] + item][1:])
        self.assertLessEqual(max(map(len, document), default=0), width)

    def assert_on_pages(self, calls, items, width, height):
        result = pages_after(calls, width, height)
        self.assertTrue(all(1 <= len(page) <= height for page in result))
        self.assertTrue(all(len(line) <= width for page in result for line in page))
        if all(len(item) <= height for item in items):
            document = document_after(calls, width)
            self.assertEqual([line for page in result for line in [""] + page][1:], document)
        # Each item is found again from page to page, undivided items in one piece and as early as they fit.
        place = (0, 0)
        for item, call in zip(items, calls):
            place = self.assert_item(item, call[0] == 2, result, place, height)
        self.assertEqual(place, (len(result) - 1, len(result[-1])) if result else (0, 0))

    def assert_item(self, item, is_table, result, place, height):
        page, start = place
        if start > 0 and start + 1 + len(item) <= height:
            self.assertEqual(result[page][start:start + 1 + len(item)], [""] + item)
            return page, start + 1 + len(item)
        if start > 0:
            self.assertEqual(len(result[page]), start)
            page += 1
        if len(item) <= height:
            self.assertEqual(result[page][:len(item)], item)
            return page, len(item)
        head = item[:3] if is_table else []
        rest = item[len(head):]
        while True:
            self.assertEqual(result[page][:len(head)], head)
            part = rest[:height - len(head)]
            self.assertEqual(result[page][len(head):len(head) + len(part)], part)
            rest = rest[len(part):]
            if not rest:
                return page, len(head) + len(part)
            self.assertEqual(len(result[page]), height)
            page += 1
