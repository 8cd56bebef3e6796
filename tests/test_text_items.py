"""add_heading, add_paragraph and add_check."""

from tests.helpers import HUGE, IN_A_TEXT, NOT_IN_A_TEXT, CallTest
from tests.helpers import add_check, add_heading, add_paragraph, ask, kinds_after, laid_out, text


class TextTest(CallTest):

    def calls_with(self, numbers):
        return [add_heading(1, numbers), add_paragraph(numbers), add_check(0, numbers)]

    def test_ordinary_texts(self):
        for words in ("Report", "To be, or not to be", "two\nlines", " ~|\\\" ", "\n"):
            for call in self.calls_with(text(words)):
                self.assert_adds(call)

    def test_empty_text(self):
        for call in self.calls_with([]):
            self.assert_adds(call)

    def test_every_byte_of_a_text(self):
        for number in IN_A_TEXT:
            for call in self.calls_with([number]) + self.calls_with([65, number]):
                self.assert_adds(call)
        for call in self.calls_with([10] + list(range(32, 127))):
            self.assert_adds(call)

    def test_numbers_that_no_text_contains(self):
        for number in NOT_IN_A_TEXT:
            for listed in ([number], [number, 65], [65, number], [65, number, 65]):
                for call in self.calls_with(listed):
                    self.assert_refused(call, -3)

    def test_all_small_numbers(self):
        for number in range(-3, 300):
            expected = 0 if number == 10 or 32 <= number <= 126 else -3
            for call in self.calls_with([number]):
                self.assertEqual(ask(call), [[expected]], call)

    def test_200_and_201_bytes(self):
        for number in (10, 32, 65, 126):
            for length in (199, 200):
                for call in self.calls_with([number] * length):
                    self.assert_adds(call)
            for call in self.calls_with([number] * 201):
                self.assert_refused(call, -3)

    def test_bad_number_at_the_end_of_200(self):
        for call in self.calls_with([65] * 199 + [127]):
            self.assert_refused(call, -3)

    def test_far_too_long(self):
        for numbers in ([65] * 202, [10] * 999, [32] * 1000, [9] * 1000):
            for call in self.calls_with(numbers):
                self.assert_refused(call, -3)

    def test_refused_behind_other_items(self):
        before = [add_paragraph(text("a")), add_heading(2, text("b"))]
        for call in self.calls_with([9]):
            self.assert_refused(call, -3, before)

    def test_contents(self):
        heading = add_heading(3, text("a\nb"))
        self.assertEqual(kinds_after(heading), [0])
        self.assertEqual(laid_out(heading, 20), ["# a b"])
        paragraph = add_paragraph(text("c\nd"))
        self.assertEqual(kinds_after(paragraph), [1])
        self.assertEqual(laid_out(paragraph, 20), ["c", "d"])
        for passed, line in ((0, "[no] d"), (1, "[ok] d")):
            check = add_check(passed, text("d"))
            self.assertEqual(kinds_after(check), [4])
            self.assertEqual(laid_out(check, 20), [line])


class HeadingTest(CallTest):

    def test_levels(self):
        for level in (1, 2, 3):
            self.assert_adds(add_heading(level, text("x")))
        for level in (-HUGE, -3, -2, -1, 0, 4, 5, 40, HUGE):
            self.assert_refused(add_heading(level, text("x")), -2)

    def test_level_is_checked_before_text(self):
        for level in (0, 4):
            for numbers in ([127], [65] * 201):
                self.assert_refused(add_heading(level, numbers), -2)

    def test_full_report_is_checked_first(self):
        self.assert_full_first([
            add_heading(1, text("x")), add_heading(4, text("x")), add_heading(1, [9]), add_heading(0, [9]),
        ])


class ParagraphTest(CallTest):

    def test_full_report_is_checked_first(self):
        self.assert_full_first([add_paragraph([]), add_paragraph(text("x")), add_paragraph([65] * 201)])


class CheckTest(CallTest):

    def test_passed(self):
        for passed in (0, 1):
            self.assert_adds(add_check(passed, text("x")))
        for passed in (-HUGE, -2, -1, 2, 3, 10, HUGE):
            self.assert_refused(add_check(passed, text("x")), -10)

    def test_passed_is_checked_before_text(self):
        for passed in (-1, 2):
            for numbers in ([127], [65] * 201):
                self.assert_refused(add_check(passed, numbers), -10)

    def test_full_report_is_checked_first(self):
        self.assert_full_first([
            add_check(1, text("x")), add_check(2, text("x")), add_check(1, [31]), add_check(-1, [31]),
        ])
