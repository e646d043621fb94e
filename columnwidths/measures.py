"""What follows from a table's widths: badness, the widths of cells, the heights of rows."""

from columnwidths.breaking import break_text, text_badness

# As many signs as stand between neighbouring cells.
GAP = 3


def columns_width(widths, first, count):
    """The width of so many columns, from the first one on, for one cell."""
    return sum(widths[first:first + count]) + GAP * (count - 1)


def table_width(widths):
    return columns_width(widths, 0, len(widths))


def cell_width(cell, widths):
    return columns_width(widths, cell.column, cell.right)


def room_for_widths(page, columns):
    """How much of the page is left for the widths of so many columns together."""
    return page - GAP * (columns - 1)


def column_badness(table, column, width):
    texts = [cell.text for cell in table.cells if cell.column == column and cell.right == 1]
    return sum([text_badness(text, width) for text in texts])


def cell_lines(cell, widths):
    return break_text(cell.text, cell_width(cell, widths))


def row_heights(table, widths):
    heights = []
    for row in range(table.rows):
        height = 1
        for cell in table.cells:
            if cell.row + cell.down - 1 == row:
                height = max(height, len(cell_lines(cell, widths)) - sum(heights[cell.row:row]))
        heights.append(height)
    return heights


def set_line_count(table, widths):
    """How many lines the table has when it is set: those of its rows, and one between two parts."""
    return sum(row_heights(table, widths)) + len(table.part_rows) - 1
