"""Layout of plots."""

from reportlayout.lines import bytes_of, decimal_notation, fill_before, truncate
from reportlayout.signs import BAR, MINUS, NUMBER_SIGN, PLUS, SPACE, STAR, ZERO

LEAST_GRID_WIDTH = 8


def scale(value, least, greatest, places):
    """Give the place of a value among places that reach from the least to the greatest value."""
    if least == greatest:
        return 0
    return (value - least) * (places - 1) // (greatest - least)


def count_points(points, height, grid_width):
    """Count the points at each place of a grid: a list for each row, from row 0 up."""
    xs = [point[0] for point in points]
    ys = [point[1] for point in points]
    columns = [scale(x, min(xs), max(xs), grid_width) for x in xs]
    rows = [scale(y, min(ys), max(ys), height) for y in ys]
    counts = [[0] * grid_width for row in range(height)]
    for column, row in zip(columns, rows):
        counts[row][column] = counts[row][column] + 1
    return counts


def point_sign(count):
    """Give the byte that shows how many points are at a place."""
    if count == 0:
        return SPACE
    if count == 1:
        return STAR
    if count <= 9:
        return ZERO + count
    return NUMBER_SIGN


def grid_line(label, counts):
    """Give the line of one row of a grid; what follows its last point is left away."""
    line = label + [BAR]
    end = len(line)
    for count in counts:
        line.append(point_sign(count))
        if count > 0:
            end = len(line)
    return line[:end]


def grid_lines(plot, label_width, grid_width):
    """Give the lines of the rows of a grid, the highest row first."""
    ys = [point[1] for point in plot.points]
    counts = count_points(plot.points, plot.height, grid_width)
    labels = [[] for row in range(plot.height)]
    labels[0] = decimal_notation(min(ys))
    labels[-1] = decimal_notation(max(ys))
    lines = []
    for row in range(plot.height - 1, -1, -1):
        lines.append(grid_line(fill_before(labels[row], label_width), counts[row]))
    return lines


def scale_lines(plot, label_width, width):
    """Give the lines that tell the least and the greatest x."""
    xs = [point[0] for point in plot.points]
    margin = [SPACE] * (label_width + 1)
    least = decimal_notation(min(xs))
    greatest = decimal_notation(max(xs))
    if len(least) + len(greatest) < width - len(margin):
        begun = margin + least
        return [begun + fill_before(greatest, width - len(begun))]
    return [truncate(margin + least, width), truncate(margin + greatest, width)]


def plot_lines(plot, width):
    """Lay out a plot."""
    if len(plot.points) == 0:
        return [bytes_of("(no points)")]
    ys = [point[1] for point in plot.points]
    label_width = max(len(decimal_notation(min(ys))), len(decimal_notation(max(ys))))
    grid_width = width - label_width - 1
    if grid_width < LEAST_GRID_WIDTH:
        return [bytes_of("(too narrow)")]
    lines = grid_lines(plot, label_width, grid_width)
    lines.append([SPACE] * label_width + [PLUS] + [MINUS] * grid_width)
    lines.extend(scale_lines(plot, label_width, width))
    return lines
