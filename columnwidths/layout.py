"""A table: its parts, and its cells, each at its place."""

HEAD = 1
GROUP = 2
FOOT = 3


class Cell:
    def __init__(self, row, column, down, right, text):
        self.row = row
        self.column = column
        self.down = down
        self.right = right
        self.text = text


class Table:
    """A table, whole or as far as it has been read; its cells are ordered."""

    def __init__(self, columns):
        self.columns = columns
        self.rows = 0
        self.part_kinds = []
        self.part_rows = []
        self.cells = []
        # For each column the first row, from the one that is laid now on, that is free there.
        self.free_from = [0] * columns


def add_part(table, kind):
    table.part_kinds.append(kind)
    table.part_rows.append(0)


def last_part_is_whole(table):
    """Whether the last part has rows, and no cell goes below them."""
    return table.part_rows[-1] > 0 and max(table.free_from) <= table.rows


def first_free_column(table):
    """The first column that isn't covered in the row that is laid now; -1 if there is none."""
    for column, row in enumerate(table.free_from):
        if row <= table.rows:
            return column
    return -1


def lay_cell(table, down, right, text):
    """Lay the cell in the row that is laid now; False if it has no room."""
    column = first_free_column(table)
    if column < 0 or column + right > table.columns:
        return False
    # What is covered further down is covered in this row too: no cell begins below it yet.
    if max(table.free_from[column:column + right]) > table.rows:
        return False
    for k in range(column, column + right):
        table.free_from[k] = table.rows + down
    table.cells.append(Cell(table.rows, column, down, right, text))
    return True


def end_row(table):
    table.rows += 1
    table.part_rows[-1] += 1


def cells_in_row(table, row):
    """The cells that cover this row, from left to right; none if there's no such row."""
    covering = [cell for cell in table.cells if cell.row <= row < cell.row + cell.down]
    return sorted(covering, key=lambda cell: cell.column)


def cell_at(table, row, column):
    """The cell that covers this place; None if it's no place of the table."""
    for cell in cells_in_row(table, row):
        if cell.column <= column < cell.column + cell.right:
            return cell
    return None
