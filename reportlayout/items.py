"""The items of a report. A text in them is a tuple of bytes."""

from reportlayout.ranges import is_within

MOST_COLUMNS = 8
MOST_ROWS_WITH_HEADERS = 25


class Heading:
    """A level from 1 to 3, and a text."""

    def __init__(self, level, text):
        self.kind = 0
        self.level = level
        self.text = text


class Paragraph:
    """A text."""

    def __init__(self, text):
        self.kind = 1
        self.text = text


class Table:
    """A list of headers, which are text cells, and a list of rows, which are lists of cells."""

    def __init__(self, headers, rows):
        self.kind = 2
        self.headers = headers
        self.rows = rows


class Plot:
    """A height, and a list of points, which are tuples (x, y)."""

    def __init__(self, height, points):
        self.kind = 3
        self.height = height
        self.points = points


class Check:
    """1 for passed or 0 for not passed, and a text."""

    def __init__(self, passed, text):
        self.kind = 4
        self.passed = passed
        self.text = text


class BarChart:
    """A list of bars, which are tuples (text, number)."""

    def __init__(self, bars):
        self.kind = 5
        self.bars = bars


def has_item(items, index):
    """Tell whether there is an item with an index."""
    return is_within(index, 0, len(items) - 1)
