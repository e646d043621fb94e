"""A table set in lines of signs."""

from columnwidths.layout import cells_in_row
from columnwidths.measures import cell_lines, cell_width, row_heights, table_width
from columnwidths.sheet import MIDDLE, RIGHT
from columnwidths.signs import BAR, BLANK, EQUALS, LINE_END


def filled(line, width, side):
    """The line with as many blanks, at this side, as it is shorter than the width."""
    blanks = width - len(line)
    before = 0
    if side == RIGHT:
        before = blanks
    elif side == MIDDLE:
        before = blanks // 2
    return [BLANK] * before + line + [BLANK] * (blanks - before)


def row_part(cell, row, sheet, heights):
    """What stands of the cell in each line of one of its rows."""
    lines = cell_lines(cell, sheet.widths)
    above = sum(heights[cell.row:row])
    shown = lines[above:above + heights[row]]
    empty = [[]] * (heights[row] - len(shown))
    width = cell_width(cell, sheet.widths)
    return [filled(line, width, sheet.sides[cell.column]) for line in shown + empty]


def set_row(row, sheet, heights):
    """The row's lines, each one ended."""
    parts = [row_part(cell, row, sheet, heights) for cell in cells_in_row(sheet.table, row)]
    text = []
    for k in range(heights[row]):
        text.extend(parts[0][k])
        for part in parts[1:]:
            text.extend([BLANK, BAR, BLANK])
            text.extend(part[k])
        text.append(LINE_END)
    return text


def set_text(sheet):
    heights = row_heights(sheet.table, sheet.widths)
    text = []
    first = 0
    for rows in sheet.table.part_rows:
        if first > 0:
            text.extend([EQUALS] * table_width(sheet.widths) + [LINE_END])
        for row in range(first, first + rows):
            text.extend(set_row(row, sheet, heights))
        first += rows
    return text
