"""A table's text, read line by line until the first fault."""

from columnwidths.layout import FOOT, GROUP, HEAD, Table
from columnwidths.layout import add_part, end_row, first_free_column, last_part_is_whole, lay_cell
from columnwidths.rowlines import read_row
from columnwidths.signs import AT, LINE_END
from columnwidths.signs import codes, is_group_name, number_up_to, only_signs

NO_FAULT = 0
NOT_ENDED_OR_NO_SIGN = 1
UNKNOWN_LINE = 2
PART_OUT_OF_ORDER = 3
NO_ROW = 4
TOO_MANY_ROWS = 5
NO_ROOM = 6
FREE_PLACE = 7
PART_NOT_WHOLE = 8
NO_PART = 9

MOST_COLUMNS = 12
MOST_GROUPS = 12
MOST_PART_ROWS = 30
MOST_ROWS = 60


class Outcome:
    """What reading gave: a table, or the line and the reason of a fault."""

    def __init__(self, table, line, reason):
        self.table = table
        self.line = line
        self.reason = reason


def split_lines(text):
    """The text's lines; the last one may lack its end."""
    lines = []
    line = []
    for byte in text:
        if byte == LINE_END:
            lines.append(line)
            line = []
        else:
            line.append(byte)
    if len(line) > 0:
        lines.append(line)
    return lines


def told_columns(line):
    """How many columns the table's line tells; 0 if it's no such line."""
    start = codes("@table ")
    if line[:len(start)] != start:
        return 0
    return number_up_to(line[len(start):], MOST_COLUMNS)


def told_part(line):
    """The kind of the part whose line this is; 0 if it's none's."""
    if line == codes("@head"):
        return HEAD
    if line == codes("@foot"):
        return FOOT
    if line == codes("@group"):
        return GROUP
    start = codes("@group ")
    name = line[len(start):]
    # Behind a blank there must be a name: a group without one has no blank either.
    if line[:len(start)] == start and len(name) > 0 and is_group_name(name):
        return GROUP
    return 0


def is_in_order(table, kind):
    """Whether a part of this kind may stand behind those that the table has."""
    if kind == HEAD:
        return len(table.part_kinds) == 0
    if kind == GROUP and table.part_kinds.count(GROUP) >= MOST_GROUPS:
        return False
    return FOOT not in table.part_kinds


def read_part_line(table, line):
    kind = told_part(line)
    if kind == 0:
        return UNKNOWN_LINE
    if not is_in_order(table, kind):
        return PART_OUT_OF_ORDER
    if len(table.part_kinds) > 0 and not last_part_is_whole(table):
        return PART_NOT_WHOLE
    add_part(table, kind)
    return NO_FAULT


def read_row_line(table, line):
    if len(table.part_kinds) == 0:
        return UNKNOWN_LINE
    cells = read_row(line)
    if cells is None:
        return NO_ROW
    if table.part_rows[-1] >= MOST_PART_ROWS or table.rows >= MOST_ROWS:
        return TOO_MANY_ROWS
    for cell in cells:
        if not lay_cell(table, cell[1], cell[2], cell[0]):
            return NO_ROOM
    if first_free_column(table) >= 0:
        return FREE_PLACE
    end_row(table)
    return NO_FAULT


def read_later_line(table, line):
    """The line's reason, if it has a fault; else the table has what it tells."""
    if line[:1] == [AT]:
        return read_part_line(table, line)
    return read_row_line(table, line)


def fault_at_end(table):
    """The reason of the line behind the last one, if it has a fault."""
    if len(table.part_kinds) == 0:
        return NO_PART
    if not last_part_is_whole(table):
        return PART_NOT_WHOLE
    return NO_FAULT


def read_table(text):
    lines = split_lines(text)
    ended = text.count(LINE_END)
    table = None
    for k, line in enumerate(lines):
        reason = NO_FAULT
        if k >= ended or not only_signs(line):
            reason = NOT_ENDED_OR_NO_SIGN
        elif k > 0:
            reason = read_later_line(table, line)
        elif told_columns(line) == 0:
            reason = UNKNOWN_LINE
        else:
            table = Table(told_columns(line))
        if reason != NO_FAULT:
            return Outcome(None, k + 1, reason)
    if table is None:
        return Outcome(None, 1, UNKNOWN_LINE)
    reason = fault_at_end(table)
    if reason != NO_FAULT:
        return Outcome(None, len(lines) + 1, reason)
    return Outcome(table, 0, NO_FAULT)
