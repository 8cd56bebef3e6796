"""Layout of bar charts."""

from reportlayout.lines import bytes_of, decimal_notation, fill_before, fill_behind, single_line, truncate
from reportlayout.signs import EQUALS_SIGN, SPACE

MOST_BYTES_OF_LABEL = 12


def label_width_of(bars):
    """Give the width of the texts of bars."""
    longest = max([len(bar[0]) for bar in bars])
    return min(max(longest, 1), MOST_BYTES_OF_LABEL)


def bar_length(number, greatest, room):
    """Give the length of the bar of a number, where the greatest number fills the room."""
    if greatest == 0:
        return 0
    return number * room // greatest


def bar_chart_lines(chart, width):
    """Lay out a bar chart."""
    if len(chart.bars) == 0:
        return [bytes_of("(no bars)")]
    numbers = [bar[1] for bar in chart.bars]
    greatest = max(numbers)
    label_width = label_width_of(chart.bars)
    number_width = max([len(decimal_notation(number)) for number in numbers])
    room = max(width - label_width - number_width - 2, 0)
    lines = []
    for text, number in chart.bars:
        label = fill_behind(truncate(single_line(text), label_width), label_width)
        drawn = fill_behind([EQUALS_SIGN] * bar_length(number, greatest, room), room)
        shown = fill_before(decimal_notation(number), number_width)
        lines.append(truncate(label + [SPACE] + drawn + [SPACE] + shown, width))
    return lines
