"""Layout of items, documents and pages."""

from reportlayout.bar_layout import bar_chart_lines
from reportlayout.items import BarChart, Heading, Paragraph, Plot, Table
from reportlayout.lines import cut_into_pieces
from reportlayout.plot_layout import plot_lines
from reportlayout.table_layout import table_lines
from reportlayout.text_layout import check_lines, heading_lines, paragraph_lines

# A ruler, the row of the headers, and a ruler.
LINES_OF_TABLE_HEAD = 3


def lay_out_item(item, width):
    """Give the lines of an item, of which there is always at least one."""
    if isinstance(item, Heading):
        return heading_lines(item, width)
    if isinstance(item, Paragraph):
        return paragraph_lines(item, width)
    if isinstance(item, Table):
        return table_lines(item, width)
    if isinstance(item, Plot):
        return plot_lines(item, width)
    if isinstance(item, BarChart):
        return bar_chart_lines(item, width)
    return check_lines(item, width)


def lines_behind(before, lines):
    """Put lines behind others, with an empty line between them if there are others."""
    if len(before) == 0:
        return lines
    return before + [[]] + lines


def lay_out_document(items, width):
    """Give the lines of a document."""
    document = []
    for item in items:
        document = lines_behind(document, lay_out_item(item, width))
    return document


def divide_item(item, lines, height):
    """Put the lines of an item on pages of its own: on one if they fit on it, otherwise on several."""
    if not isinstance(item, Table):
        return cut_into_pieces(lines, height)
    # A ruler always follows the head, so there is a page for a table without rows too.
    head = lines[:LINES_OF_TABLE_HEAD]
    others = lines[LINES_OF_TABLE_HEAD:]
    return [head + part for part in cut_into_pieces(others, height - LINES_OF_TABLE_HEAD)]


def lay_out_pages(items, width, height):
    """Give the pages of a document, each of them a list of lines."""
    finished = []
    page = []
    for item in items:
        lines = lay_out_item(item, width)
        together = lines_behind(page, lines)
        if len(together) <= height:
            page = together
        else:
            if len(page) > 0:
                finished.append(page)
            divided = divide_item(item, lines, height)
            finished.extend(divided[:-1])
            page = divided[-1]
    if len(page) > 0:
        finished.append(page)
    return finished
