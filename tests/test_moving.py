"""remove_item, move_item, and the twelve items."""

from tests.helpers import BELOW_ZERO, HUGE, CallTest
from tests.helpers import add_heading, add_paragraph, add_table, ask, cells, column_counts, full_report
from tests.helpers import items_after, last, move_item, remove_item, text


def tables(count):
    """Tables with one, two, three columns and so on, so that answers tell one from another."""
    return [add_table(columns, cells("h") * columns) for columns in range(1, count + 1)]


def paragraphs(count):
    return [add_paragraph(text("number " + str(number))) for number in range(count)]


class TwelveItemsTest(CallTest):

    def test_indices_up_to_twelve(self):
        expected = [[index] for index in range(12)]
        self.assertEqual(ask(*full_report()), expected)
        self.assertEqual(ask(*paragraphs(14)), expected + [[-1], [-1]])

    def test_room_after_removing(self):
        calls = full_report() + [remove_item(0), add_paragraph([]), add_paragraph([])]
        self.assertEqual(ask(*calls)[12:], [[0], [11], [-1]])

    def test_moving_makes_no_room(self):
        calls = full_report() + [move_item(0, 11), add_paragraph([]), remove_item(11), remove_item(11)]
        self.assertEqual(ask(*calls)[12:], [[0], [-1], [0], [-11]])

    def test_refused_calls_take_no_room(self):
        calls = [add_heading(4, [])] * 8 + paragraphs(12)
        self.assertEqual(ask(*calls), [[-2]] * 8 + [[index] for index in range(12)])


class RemoveItemTest(CallTest):

    def test_each_index(self):
        for index in range(4):
            calls = tables(4) + [remove_item(index)]
            self.assertEqual(last(*calls), [0])
            kept = [1, 2, 3, 4]
            kept.remove(index + 1)
            self.assertEqual(column_counts(calls), kept)

    def test_several_times(self):
        self.assertEqual(column_counts(tables(5) + [remove_item(1), remove_item(1)]), [1, 4, 5])
        self.assertEqual(ask(*tables(2), remove_item(0), remove_item(0), remove_item(0))[2:], [[0], [0], [-11]])

    def test_last_of_twelve(self):
        self.assertEqual(last(*full_report(), remove_item(11)), [0])
        self.assert_refused(remove_item(12), -11, full_report())

    def test_each_kind_of_item(self):
        for index in range(6):
            before = full_report()[:6]
            expected = items_after(*before)
            expected.pop(index)
            self.assertEqual(items_after(*before, remove_item(index)), expected)

    def test_no_such_item(self):
        for index in BELOW_ZERO + (0, 1, HUGE):
            self.assert_refused(remove_item(index), -11)
        for index in BELOW_ZERO + (3, 4, 12, HUGE):
            self.assert_refused(remove_item(index), -11, tables(3))

    def test_index_of_an_item_added_later(self):
        calls = tables(3) + [remove_item(0), add_paragraph([])]
        self.assertEqual(last(*calls), [2])
        self.assertEqual(column_counts(calls), [2, 3, 0])


class MoveItemTest(CallTest):

    def test_each_way(self):
        for moves, expected in (
            ((0, 0), [1, 2, 3, 4]), ((0, 1), [2, 1, 3, 4]), ((0, 2), [2, 3, 1, 4]), ((0, 3), [2, 3, 4, 1]),
            ((1, 0), [2, 1, 3, 4]), ((1, 1), [1, 2, 3, 4]), ((1, 2), [1, 3, 2, 4]), ((1, 3), [1, 3, 4, 2]),
            ((2, 0), [3, 1, 2, 4]), ((2, 1), [1, 3, 2, 4]), ((2, 2), [1, 2, 3, 4]), ((2, 3), [1, 2, 4, 3]),
            ((3, 0), [4, 1, 2, 3]), ((3, 1), [1, 4, 2, 3]), ((3, 2), [1, 2, 4, 3]), ((3, 3), [1, 2, 3, 4]),
        ):
            calls = tables(4) + [move_item(*moves)]
            self.assertEqual(last(*calls), [0])
            self.assertEqual(column_counts(calls), expected, moves)

    def test_only_item(self):
        calls = tables(1) + [move_item(0, 0)]
        self.assertEqual(last(*calls), [0])
        self.assertEqual(column_counts(calls), [1])

    def test_among_twelve(self):
        before = paragraphs(12)
        views = items_after(*before)
        for index in range(12):
            for target in range(12):
                others = views[:index] + views[index + 1:]
                expected = others[:target] + [views[index]] + others[target:]
                self.assertEqual(items_after(*before, move_item(index, target)), expected)

    def test_back_again(self):
        before = full_report()
        for index in range(12):
            for target in range(12):
                calls = before + [move_item(index, target), move_item(target, index)]
                self.assertEqual(ask(*calls)[12:], [[0], [0]])
                self.assertEqual(items_after(*calls), items_after(*before))

    def test_no_such_item(self):
        for index in BELOW_ZERO + (3, 4, 12, HUGE):
            self.assert_refused(move_item(index, 0), -11, tables(3))
            self.assert_refused(move_item(0, index), -11, tables(3))
            self.assert_refused(move_item(2, index), -11, tables(3))
            self.assert_refused(move_item(index, index), -11, tables(3))

    def test_last_of_twelve(self):
        self.assertEqual(last(*full_report(), move_item(11, 0)), [0])
        self.assertEqual(last(*full_report(), move_item(0, 11)), [0])
        self.assert_refused(move_item(12, 0), -11, full_report())
        self.assert_refused(move_item(0, 12), -11, full_report())

    def test_empty_report(self):
        for index in (-1, 0, 1):
            self.assert_refused(move_item(index, 0), -11)
