"""The line of a row, taken apart into the texts and reaches of its cells."""

from columnwidths.signs import BACKSLASH, BAR, BLANK, CARET, LETTER_X, MARKS
from columnwidths.signs import is_cell_text, number_up_to

MOST_DOWN = 30
MOST_RIGHT = 12


def split_at_bars(line):
    """What stands between those | of the line that have no backslash of their own."""
    stretches = []
    stretch = []
    escaped = False
    for byte in line:
        if byte == BAR and not escaped:
            stretches.append(stretch)
            stretch = []
        else:
            stretch.append(byte)
        escaped = byte == BACKSLASH and not escaped
    stretches.append(stretch)
    return stretches


def without_blanks(stretch, before, behind):
    """The stretch less a blank at the asked ends; None if they have none, or share one."""
    end = len(stretch) - behind
    if end < before:
        return None
    if before == 1 and stretch[0] != BLANK:
        return None
    if behind == 1 and stretch[-1] != BLANK:
        return None
    return stretch[before:end]


def plain_text(written):
    """The cell's text that is written so; None if there is none."""
    text = []
    escaped = False
    for byte in written:
        if byte == BACKSLASH and not escaped:
            escaped = True
            continue
        # A mark needs its backslash, and no other sign may have one.
        if escaped != (byte in MARKS):
            return None
        text.append(byte)
        escaped = False
    if escaped or not is_cell_text(text):
        return None
    return text


def read_reach(written):
    """How far down and to the right a cell goes for which this stands behind ^; None if for none."""
    if LETTER_X not in written:
        return None
    middle = written.index(LETTER_X)
    down = number_up_to(written[:middle], MOST_DOWN)
    right = number_up_to(written[middle + 1:], MOST_RIGHT)
    # A cell of one place has just its text in the line.
    if down == 0 or right == 0 or (down == 1 and right == 1):
        return None
    return (down, right)


def read_reaching_cell(line_text):
    """The same as read_cell, for a line text that begins with ^."""
    end = line_text.index(BLANK) if BLANK in line_text else len(line_text)
    reach = read_reach(line_text[1:end])
    text = plain_text(line_text[end + 1:])
    if reach is None or text is None:
        return None
    if end < len(line_text) and len(text) == 0:
        return None
    return (text, reach[0], reach[1])


def read_cell(line_text):
    """A cell's text and how far it goes down and to the right; None if it's no cell's line text."""
    if line_text[:1] == [CARET]:
        return read_reaching_cell(line_text)
    text = plain_text(line_text)
    if text is None:
        return None
    return (text, 1, 1)


def read_row(line):
    """What read_cell tells of each of the row's cells; None if the line is no row's."""
    if line == [CARET]:
        return []
    stretches = split_at_bars(line)
    last = len(stretches) - 1
    cells = []
    for k, stretch in enumerate(stretches):
        line_text = without_blanks(stretch, 1 if k > 0 else 0, 1 if k < last else 0)
        if line_text is None:
            return None
        cell = read_cell(line_text)
        if cell is None:
            return None
        cells.append(cell)
    return cells
